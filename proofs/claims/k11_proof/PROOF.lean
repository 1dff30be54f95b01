import PyProof.Rows.All
import Wide.All
import OpenK.AllK
import Wide.FinOn
import Lean
import PyProof.EqAt
import PyProof.EqKinds
import PyProof.TupleCall
import PyProof.NeKinds
import PyProof.WalkInts
import PyProof.SumWalkG
import KE.IntBitsLaws
import PyProof.FString
import PyProof.StrBlock
import KE.KxWritten
import KE.KxText
import PyProof.SliceStr2
import PyProof.TupleOfSeq
import PyProof.ReprRoads
import PyProof.ReprReads
import PyProof.ReprLen
import PyProof.Rows.TupDisplay
import PySem.Challenge.RW_treewalkers_k11_behind_so_many_steps
set_option Elab.async false
set_option linter.all false
set_option tactic.hygienic false
set_option maxRecDepth 100000
set_option exponentiation.threshold 10000
set_option maxHeartbeats 4000000
namespace Internal
namespace Qs
end Qs
open Option renaming some->My,none->U5
open Bool renaming true->U6,false->U7
open List renaming range->U8,replicate->U9
open Rat renaming divInt->U_
open PySem.SetTable renaming below->Va,runEnd->Vb,bits->Vc
noncomputable section
open PySem renaming wpAny_bind->ae,wpAny_pure->af,wpAny_newObj_type->bw,wpAny_callSpecial?_slot->bP,wpAny_holding->bQ,wpAny_truthy_bool->bT,wpAny_field->bV,wpAny_call_entry->bY,wpAny_setState_of->cm,boot_len->cB,wpAny_seqItems->cF,mem_of_lookup->cU,wpAny_mono->dh,wpAny_setField_rec->dw,wpAny_passesOwn->dD,wpAny_attempt->eQ,wpAny_Call_Name_kw->eU,wpAny_pyIter_list->e_,wpAny_typeOf->fe,wpAny_setField->fi,wpAny_onRaise->fF,wpAny_updateSeq_pair->fI,wpAny_execs_nil->fJ,wpAny_pyIter_tuple->fN,wpAny_sequenceKey->fW,wpAny_standAt->f6,wpAny_newList->f7,wpAny_rule->f_,wpAny_call->gf
open PySem.Heap renaming get?_push_of_some->ag,lt_size->av,get?_push_size->aF,get?_none_of_le->cE,size_push->cH,get?_update_self->dz
open List renaming length_map->ah,getD_eq_getElem?_getD->aq,size_toArray->ar,mem_cons_of_mem->ay,getElem?_eq_getElem->aA,mem_cons_self->aB,mem_range->aC,mem_cons->aD,mem_map->aE,getElem?_map->aH,map_cons->aI,nodup_iff_pairwise_ne->aJ,length_append->aK,getElem?_eq_some_iff->aN,mem_append_right->aR,getElem?_cons_succ->aS,map_map->aU,lookup_cons->aX,mem_append->a_,mem_append_left->bc,length_cons->bf,not_mem_nil->bg,mem_singleton->bp,pairwise_map->bq,mem_of_getElem?->bt,map_append->bu,append_nil->bB,nodup_cons->bC,getElem?_cons_zero->bE,all_eq_true->bF,length_singleton->bG,mem_filter->bH,filterMap_cons->bK,getElem?_append_right->bM,map_congr_left->bR,getElem?_append_left->bS,length_take->bX,getElem?_set_ne->bZ,pairwise_iff_getElem->b_,getElem_of_mem->cf,foldl_cons->cu,getElem?_set_self->cv,length_drop->cw,append_assoc->cy,getElem?_eq_none->cA,length_range->cJ,getElem?_range->cL,length_nil->cM,sum_cons->cQ,length_eq_zero_iff->cS,replicate_succ->cV,map_id->cY,nodup_range->cZ,mem_filterMap->de,length_filter_le->dB,find?_cons->dE,mem_of_mem_take->dP,length_pos_iff->dU,pairwise_singleton->dY,getElem_mem->dZ,eq_nil_of_length_eq_zero->d8,take_of_length_le->d_,flatten_cons->el,mem_of_mem_drop->en,map_nil->eo,take_length->eD,drop_eq_getElem_cons->eG,length_reverse->eK,getElem?_take_of_lt->eM,of_mem_zip->eS,forIn_cons->eT,pairwise_cons->eX,pairwise_lt_range->fh,all_map->fk,take_succ->fq,reverse_cons->fu,cons_append->fz,any_eq_true->fA,any_toArray->fB,zip_cons_cons->fP,perm_ext_iff_of_nodup->fR,forIn_nil->fT,getElem?_zip_eq_some->fV,nil_append->gq,range_succ->gu,nodup_nil->gF
open Option renaming bind_some->ak,map_some->cq,isSome_iff_exists->cP,join_some->da,getD_some->eA,toList_some->eV
open Option.some renaming inj->ao
open Nat renaming le_refl->aw,lt_of_lt_of_le->aG,ne_of_lt->aM,zero_le->aT,lt_irrefl->aV,le_trans->bD,lt_of_le_of_lt->bN,ne_of_gt->bU,le_of_lt_succ->cz,pow_le_pow_right->cR,not_lt_zero->dF,mul_comm->dM,lt_succ_of_lt->dN,le_of_lt->d9,mul_assoc->eh,pow_succ->eu,le_add_right->eB,lt_succ_self->eE,lt_trichotomy->fg,le_of_not_lt->fx,mod_lt->fy,min_eq_right->fC,min_eq_left->fL,le_of_eq->fM,not_lt->fU,max_eq_right->f9,succ_pos->gm,gcd_comm->gn,max_eq_left->gv,le_succ->gA
open Bool renaming false_ne_true->ax,and_eq_true->aP,false_eq_true->aQ,not_eq_true->bx,eq_iff_iff->bJ,not_true->ef,and_true->eg,and_false->fQ,false_and->gy,not_false->gD
open List.Nodup renaming length_le_of_subset->aL
open PySem.W renaming mg_none_of->aW,mg_of->ee,cellsFrom_some->fb
open PyProof.Rows renaming slot_tuple_getitem->aY,callWith_type1->cW
open Ne renaming symm->aZ
open Classical renaming byContradiction->ba
open Array renaming getElem?_toList->bh,length_toList->bA,getD_eq_getD_getElem?->bL,getElem?_eq_some_iff->cp,getElem?_eq_none->cX
open PySem.PassesOwn renaming never->bj
open Function renaming comp_def->br
open Int renaming emod_nonneg->bW,toNat_natCast->cg,emod_lt_of_pos->cC,fdiv_eq_ediv_of_nonneg->fO
open PySem.F renaming called_set->cb,plainAttrs_list->cT,slot_tuple_iterator_next->du,slot_list_append->dR,type_list_append->dS,args_tuple_add_2->eO,entry_tuple_add->eY,slot_tuple_add->fc,slot_zip_next->fK
open PySem.List renaming filterMap_getElem?_range_length->cG
open PySem.Heap.SameBut renaming update->cK
open Rat renaming divInt_ofNat->c_,mkRat_self->ft
open PySem.Obj renaming data_mapFields->dq,isFreed_of_fields->fw,cls_mapFields->fZ
open PyProof.Rows.KeyOrd renaming kle_refl->dH,kle_of_klt->dO,kle_trans->eF,kle_of_not_klt->fv
open PyProof.Rows.F renaming plain_set_update_loop->dX
open PySem.Calls renaming call_function_entry->eJ
open PySem.SetTable renaming toList_insertAt->eP
open List.Pairwise renaming imp_of_mem->eR,filter->fG
open PySem.Value renaming isInt_shape->eZ
open PySem.Paired renaming length->fE,snoc->fY
open PySem.Around renaming under_plainId->fH
open PySem.Code renaming quiet_builtin->fS
open Prod renaming ext->gz
open List.Perm renaming refl->gE
abbrev ai:=@if_pos
abbrev au:=@if_neg
abbrev cn:=@if_false
abbrev cN:=@congrArg
abbrev dJ:=@if_true
abbrev gG:=PySem.Str->Option PySem.Value
abbrev gH:=PySem.Value->PySem.Shared->Prop
abbrev gJ:=Option
abbrev gK:=PySem.W.Frag
abbrev gL:=PySem.Value
abbrev gM:=PySem.Shared
abbrev gN:=List (Nat×Nat)
abbrev gO:=List (PySem.Addr×PySem.Obj)
local macro_rules | `(tactic| trivial)=>`(tactic| first | exact .inl rfl | exact .inr rfl | exact Or.inl rfl | exact Or.inr (Or.inl rfl) | exact Or.inr (Or.inr rfl) | exact Or.inr rfl | (show List.Nodup (_::_);decide +kernel) | exact⟨rfl,rfl,rfl,by decide +kernel,rfl,by decide +kernel,by decide +kernel⟩ | assumption)
namespace L2
open PySem PySem.Spec PyProof.Rows
abbrev Key:=Sum Int Str
def zu:Key->gL->Bool
 | .inl k,v=>Value.isInt k v
 | .inr x,v=>Value.isStrOf x v
def SQ (w:World):Key->Int
 | .inl k=>hashInt k
 | .inr x=>hashStr w x
theorem jR:∀ {k:Key} {v:gL},zu k v=U6->(∃ i t,k=Sum.inl i/\v=Value.int i t)\/(∃ x t,k=Sum.inr x/\v=Value.str x t)
 | .inl i,v,h=>by obtain⟨t,e⟩:=eZ (k:=i) (v:=v) h;exact .inl ⟨i,t,rfl,e⟩
 | .inr x,v,h=>by obtain⟨t,e⟩:=Value.isStrOf_shape (x:=x) (v:=v) h;exact .inr ⟨x,t,rfl,e⟩
theorem FU (i:Int)(t:Tok):zu (.inl i) (.int i t)=U6:=by simp[zu,Value.isInt]
theorem FV (x:Str)(t:Tok):zu (.inr x) (.str x t)=U6:=by simp[zu,Value.isStrOf]
theorem NL (a b:Int):decide ((Sum.inl a:Key)=Sum.inl b)=(a==b):=by
 by_cases e:a=b
 ·subst e;simp
 ·have h:¬ (Sum.inl a:Key)=Sum.inl b:=λ q=>e (Sum.inl.inj q);rw[decide_eq_false h];exact(beq_eq_false_iff_ne.mpr e).symm
theorem NM (a b:Str):decide ((Sum.inr a:Key)=Sum.inr b)=decide (a=b):=by
 by_cases e:a=b
 ·subst e;simp
 ·have h:¬ (Sum.inr a:Key)=Sum.inr b:=λ q=>e (Sum.inr.inj q);rw[decide_eq_false h,decide_eq_false e]
theorem NN (a:Int)(b:Str):decide ((Sum.inl a:Key)=Sum.inr b)=U7:=decide_eq_false (λ q=>nomatch q)
theorem NO (a:Str)(b:Int):decide ((Sum.inr a:Key)=Sum.inl b)=U7:=decide_eq_false (λ q=>nomatch q)
def kh (prog:Program)(w:World):PySem.KeyKind prog w Key where
 is:=zu
 hash:=SQ w
 inj:=λ v a b ha hb=>by
  rcases jR ha with⟨i,t,rfl,rfl⟩ | ⟨x,t,rfl,rfl⟩
  ·rcases jR hb with⟨j,u,rfl,e⟩ | ⟨y,u,rfl,e⟩
   ·injection e with e1 _;rw[e1]
   ·exact nomatch e
  ·rcases jR hb with⟨j,u,rfl,e⟩ | ⟨y,u,rfl,e⟩
   ·exact nomatch e
   ·injection e with e1 _;rw[e1]
 byValue:=λ k v h=>by
  rcases jR h with⟨i,t,rfl,rfl⟩ | ⟨x,t,rfl,rfl⟩<;>rfl
 pyHash:=λ hv h=>by
  rcases jR hv with⟨i,t,rfl,rfl⟩ | ⟨x,t,rfl,rfl⟩
  ·exact wpAny_pyHash_int h
  ·exact wpAny_pyHash_str h
 eqBool:=λ hu hv h=>by
  rcases jR hu with⟨i,t,rfl,rfl⟩ | ⟨x,t,rfl,rfl⟩
  ·rcases jR hv with⟨j,u,rfl,rfl⟩ | ⟨y,u,rfl,rfl⟩
   ·rw[NL]at h;exact wpAny_eqBool_int h
   ·rw[NN]at h;exact SeqAt.EqAt.int_str i t y u _ _ _ _ h
  ·rcases jR hv with⟨j,u,rfl,rfl⟩ | ⟨y,u,rfl,rfl⟩
   ·rw[NO]at h;exact SeqAt.EqAt.str_int x t j u _ _ _ _ h
   ·rw[NM]at h;exact wpAny_eqBool_str h
 «strs»:=λ k x t v h=>by
  rcases jR h with⟨i,u,rfl,e⟩ | ⟨y,u,rfl,e⟩
  ·exact nomatch e
  ·injection e with e1 _
   subst e1
   cases v<;>rfl
theorem BH (prog:Program)(w:World)(i:Int)(t:Tok):(kh prog w).is (.inl i) (.int i t)=U6:=FU i t
theorem BJ (prog:Program)(w:World)(x:Str)(t:Tok):(kh prog w).is (.inr x) (.str x t)=U6:=FV x t
inductive V where
 | non | bl (b:Bool) | int (i:Int) | str (x:Str) | byt (b:Array UInt8) | flt (b:UInt64) | ref (a:Addr) | ty (n:String)
 deriving DecidableEq
def RelV:V->gL->Prop
 | .non,u=>u=Value.none
 | .bl b,u=>u=Value.bool b
 | .int i,u=>∃ t,u=Value.int i t
 | .str x,u=>∃ t,u=Value.str x t
 | .byt b,u=>∃ t,u=Value.bytes b t
 | .flt b,u=>∃ t,u=Value.float b t
 | .ref a,u=>u=Value.ref a
 | .ty n,u=>u=Value.type n
abbrev Vals:List V->List gL->Prop:=Paired RelV
theorem Vals.length {xs:List V}{us:List gL}(r:Vals xs us):xs.length=us.length:=fE r
theorem Vals.get:∀ {xs:List V} {us:List gL} {i:Nat} {x:V},Vals xs us->xs[i]?=My x->∃ u,us[i]?=My u/\RelV x u
 | _,_,_,_,.nil,e=>by simp at e
 | _,_,0,_,.cons r _,e=>by simp at e;subst e;exact⟨_,rfl,r⟩
 | _,_,i+1,x,.cons _ t,e=>by obtain⟨u,h1,h2⟩:=Vals.get (i:=i) (x:=x) t (by simpa using e);exact⟨u,by simpa using h1,h2⟩
theorem Vals.set {x:V}{u:gL}(r:RelV x u):∀ {xs:List V} {us:List gL} (i:Nat),Vals xs us->Vals (xs.set i x) (us.set i u)
 | _,_,_,.nil=>.nil
 | _,_,0,.cons _ t=>.cons r t
 | _,_,i+1,.cons q t=>.cons q (Vals.set r i t)
theorem Vals.append:∀ {xs ys:List V} {us ws:List gL},Vals xs us->Vals ys ws->Vals (xs++ys) (us++ws)
 | _,_,_,_,.nil,s=>s
 | _,_,_,_,.cons r t,s=>.cons r (Vals.append t s)
theorem Vals.take:∀ {xs:List V} {us:List gL} (n:Nat),Vals xs us->Vals (xs.take n) (us.take n)
 | _,_,0,_=>.nil
 | _,_,_+1,.nil=>.nil
 | _,_,n+1,.cons r t=>.cons r (Vals.take n t)
theorem Vals.drop:∀ {xs:List V} {us:List gL} (n:Nat),Vals xs us->Vals (xs.drop n) (us.drop n)
 | _,_,0,r=>r
 | _,_,_+1,.nil=>.nil
 | _,_,n+1,.cons _ t=>Vals.drop n t
def yK:gJ V->gJ gL->Prop
 | some v,My u=>RelV v u
 | none,U5=>True
 | _,_=>False
def KV {κ:Type}:List (κ×V)->List (κ×gL)->Prop:=Paired λ(p:κ×V) (q:κ×gL)=>p.1=q.1/\RelV p.2 q.2
def kV:Key->V
 | .inl i=>.int i
 | .inr x=>.str x
inductive HO where
 | lst (xs:List V)
 | tup (xs:List V)
 | dK (kvs:List (Key×V)) | dT (kvs:List (List Key×V))
 | set (S:Int->Bool) (n:Nat)
 | ins (C dx:Addr) (fs:List (Str×V))
 | own (x:Addr)
 | xd (fs:List (Str×V))
 | met (f x:Addr)
 | rng (lo hi:Int)
 | frz (o:Obj) (u:HO)
 | tbl (ps:Array gL)
 | ext (φ:Heap->Prop)
abbrev Hp:=Addr->gJ HO
def upd (H:Hp)(a:Addr)(o:HO):Hp:=λ b=>if b=a then My o else H b
theorem gZ {H:Hp}{a:Addr}{o:HO}:upd H a o a=My o:=by unfold upd;rw[ai rfl]
theorem hU {H:Hp}{a b:Addr}{o:HO}(h:b≠a):upd H a o b=H b:=by unfold upd;rw[au h]
theorem Ko {H:Hp}{a:Addr}{o u:HO}:upd (upd H a o) a u=upd H a u:=by funext b;unfold upd;split<;>rfl
theorem Qz {H:Hp}{a b:Addr}{o u:HO}(h:H a=My o)(h':H b=My u)(d:o≠u):a≠b:=by intro e;subst e;rw[h]at h';exact d (ao h')
theorem iP {H:Hp}{a b:Addr}{o:HO}(h:H a=My o)(h':H b=U5):a≠b:=by intro e;subst e;rw[h]at h';cases h'
section
variable (P:Program)(w:World)
def jH (H:Hp)(h:Heap)(a:Addr):HO->Prop
 | .lst xs=>xs.length<=sizeLine/\∃ (its:List gL) (n:Nat),Vals xs its/\h.get? a=My {cls:=.type "list",data:=.seq its.toArray n}
 | .tup xs=>(xs.length<=sizeLine/\∃ o,h.get? a=My o/\o.dict=U5)/\∃ its:List gL,Vals xs its/\IsTup h a its.toArray
 | .dK kvs=>kvs.length<=sizeLine/\(a==sysModules)=U7/\∃ vs,KV kvs vs/\h.DictOf (kh P w) a vs
 | .dT kvs=>kvs.length<=sizeLine/\(a==sysModules)=U7/\∃ xs:List (List Key×Addr×gL),
   Paired (λ(p:List Key×V) (q:List Key×Addr×gL)=>p.1=q.1/\H q.2.1=My (.tup (p.1.map kV))/\RelV p.2 q.2.2) kvs xs /\
   ∃ o es ep,h.get? a=My o/\o.ExactDict/\o.data=.dict es ep/\es.toList=xs.map (entryOfKey (tupleKind (kh P w)))/\(xs.map (·.1)).Nodup
 | .set S n=>h.SetOf (intKind P w) a S n
 | .ins C dx fs=>H dx=My (.own a)/\fs.length<=1000/\dx≠a/\h.get? a=My (PySem.W.instObj C dx) /\
   ∃ mA,h.Ns1 dx mA/\(∀ f,yK (fs.lookup f) (mA f))/\PySem.Within mA (fs.map (·.1))
 | .own _=>∃ o,h.get? a=My o
 | .xd fs=>∃ mA,h.Ns1 a mA/\∀ f,yK (fs.lookup f) (mA f)
 | .rng lo hi=>∃ t u v,h.get? a=My {cls:=.type "range",data:=.fields #[.int lo t,.int hi u,.int 1 v]}
 | .frz o u=>h.get? a=My o/\jH H h a u
 | .tbl ps=>h.get? a=My {cls:=.none,data:=.fields ps}
 | .met f x=>h.get? a=My (PySem.W.methodObj (.ref f) (.ref x))
 | .ext φ=>φ h/\(∃ o,h.get? a=My o)/\∀ h1 h2:Heap,φ h1->(∀ o,h1.get? a=My o->h2.get? a=My o)->φ h2
def HOk (H:Hp)(h:Heap):Prop:=∀ a o,H a=My o->jH P w H h a o
end
section
variable {P:Program}{w:World}{H H':Hp}{h h':Heap}{a:Addr}{o:HO}
theorem jH.lt (x:jH P w H h a o):a<h.objs.size:=by
 cases o with
 | lst xs=>obtain⟨_,_,_,_,e⟩:=x;exact av e
 | tup xs=>obtain⟨_,_,_,p⟩:=x;exact p.lt
 | dK kvs=>obtain⟨_,_,_,_,o,_,_,e,_⟩:=x;exact av e
 | dT kvs=>obtain⟨_,_,_,_,o,_,_,e,_⟩:=x;exact av e
 | set S n=>obtain⟨o,_,_,_,e,_⟩:=x;exact av e
 | ins C dx fs=>obtain⟨_,_,_,e,_⟩:=x;exact av e
 | own y=>obtain⟨_,e⟩:=x;exact av e
 | xd fs=>obtain⟨_,⟨_,_,_,e,_⟩,_⟩:=x;exact av e
 | rng lo hi=>obtain⟨_,_,_,e⟩:=x;exact av e
 | frz ob u=>obtain⟨e,_⟩:=x;exact av e
 | tbl ps=>exact av (show h.get? a=My _ from x)
 | met f y=>exact av (show h.get? a=My _ from x)
 | ext φ=>obtain⟨_,⟨_,e⟩,_⟩:=x;exact av e
theorem Paired.Kq {α β:Type}{F G:α->β->Prop}:∀ {l₁:List α} {l₂:List β},Paired F l₁ l₂->(∀ a b,F a b->G a b)->Paired G l₁ l₂
 | _,_,.nil,_=>.nil
 | _,_,.cons r t,f=>.cons (f _ _ r) (Paired.Kq t f)
theorem Paired.imp' {α β:Type}{F G:α->β->Prop}(f:∀ a b,F a b->G a b){l₁:List α}{l₂:List β}(r:Paired F l₁ l₂):Paired G l₁ l₂:=Paired.Kq r f
theorem jH.wM (x:jH P w H h a o)(k:∀ b u,(b=a\/H b=My (.own a))->h.get? b=My u->h'.get? b=My u)
  (ho:∀ b,H b=My (.own a)->H' b=My (.own a)) (ht:∀ b xs,H b=My (.tup xs)->H' b=My (.tup xs)):jH P w H' h' a o:=by
 induction o with
 | lst xs=>obtain⟨z,its,n,r,e⟩:=x;exact⟨z,its,n,r,k _ _ (.inl rfl) e⟩
 | tup xs=>obtain⟨⟨z,o2,e2,d2⟩,its,r,ob,e,c⟩:=x;exact⟨⟨z,o2,k _ _ (.inl rfl) e2,d2⟩,its,r,ob,k _ _ (.inl rfl) e,c⟩
 | dK kvs=>obtain⟨z,y,vs,r,ob,es,ep,e,c⟩:=x;exact⟨z,y,vs,r,ob,es,ep,k _ _ (.inl rfl) e,c⟩
 | dT kvs =>obtain⟨z,y,xs,r,ob,es,ep,e,c⟩:=x;exact⟨z,y,xs,Paired.Kq r λ p q z=>⟨z.1,ht _ _ z.2.1,z.2.2⟩,ob,es,ep,k _ _ (.inl rfl) e,c⟩
 | set S n=>obtain⟨ob,es,ep,t,e,c⟩:=x;exact⟨ob,es,ep,t,k _ _ (.inl rfl) e,c⟩
 | ins C dx fs =>obtain⟨d,z,ne,e,mA,⟨od,es,ep,e2,c⟩,r⟩:=x;exact⟨ho _ d,z,ne,k _ _ (.inl rfl) e,mA,⟨od,es,ep,k _ _ (.inr d) e2,c⟩,r⟩
 | own y=>obtain⟨ob,e⟩:=x;exact⟨ob,k _ _ (.inl rfl) e⟩
 | xd fs=>obtain⟨mA,⟨od,es,ep,e,c⟩,r⟩:=x;exact⟨mA,⟨od,es,ep,k _ _ (.inl rfl) e,c⟩,r⟩
 | rng lo hi=>obtain⟨t,u,v,e⟩:=x;exact⟨t,u,v,k _ _ (.inl rfl) e⟩
 | frz ob u ih=>obtain⟨e,q⟩:=x;exact⟨k _ _ (.inl rfl) e,ih q⟩
 | tbl ps =>have e:h.get? a=My {cls:=.none,data:=.fields ps}:=x;show h'.get? a=My {cls:=.none,data:=.fields ps};exact k a _ (.inl rfl) e
 | met f y =>have e:h.get? a=My (PySem.W.methodObj (.ref f) (.ref y)):=x;show h'.get? a=My (PySem.W.methodObj (.ref f) (.ref y));exact k a _ (.inl rfl) e
 | ext φ=>obtain⟨p,⟨o,e⟩,st⟩:=x;exact⟨st _ _ p λ o q=>k _ _ (.inl rfl) q,⟨o,k _ _ (.inl rfl) e⟩,st⟩
theorem HOk.lt (x:HOk P w H h)(e:H a=My o):a<h.objs.size:=(x a o e).lt
theorem HOk.fresh (x:HOk P w H h)(e:h.objs.size<=a):H a=U5:=by
 cases q:H a with
 | none=>rfl
 | some u=>exact absurd (aG (x.lt q) e) (aV _)
theorem HOk.kept (x:HOk P w H h)(k:∀ b u,h.get? b=My u->h'.get? b=My u):HOk P w H h':=λ a o e =>(x a o e).wM (λ b u _ q=>k b u q) (λ _ q=>q) λ _ _ q=>q
theorem HOk.laid (x:HOk P w H h)(k:∀ b u,h.get? b=My u->h'.get? b=My u)(hp:h.objs.size<=a)(new:jH P w (upd H a o) h' a o):HOk P w (upd H a o) h':=λ b u e=>by
 have hn:=x.fresh hp;by_cases hb:b=a
 ·subst hb;rw[gZ]at e;cases e;exact new
 ·rw[hU hb]at e;exact(x b u e).wM (λ c v _ q=>k c v q) (λ c q=>by rw[hU (iP q hn)];exact q) λ c xs q=>by rw[hU (iP q hn)];exact q
end
def Rd (H:Hp)(a:Addr)(u:HO):Prop:=H a=My u\/∃ o,H a=My (.frz o u)
theorem Rd.ok {P:Program}{w:World}{H:Hp}{h:Heap}{a:Addr}{u:HO}(r:Rd H a u)(x:HOk P w H h):jH P w H h a u:=by
 rcases r with r | ⟨o,r⟩
 ·exact x a u r
 ·obtain⟨_,q⟩:=x a _ r;exact q
def Mut:gJ HO->Prop
 | some (.lst _)=>True
 | some (.dK _)=>True
 | some (.dT _)=>True
 | some (.set _ _)=>True
 | some (.ins _ _ _)=>True
 | some (.ext _)=>True
 | _=>False
section
variable {P:Program}{w:World}{H:Hp}{h h':Heap}{x e:Addr}{o':HO}
theorem HOk.write (ok:HOk P w H h)(mu:Mut (H x))(he:e=x\/H e=My (.own x))(k:∀ b u,b≠e->h.get? b=My u->h'.get? b=My u)(heo:∃ u,h'.get? e=My u)
  (new:jH P w (upd H x o') h' x o'):HOk P w (upd H x o') h':=λ b u q=>by
 have nown:∀ c y,H c=My (.own y)->c≠x:=λ c y r z=>by subst z;rw[r]at mu;exact mu
 have ntup:∀ c xs,H c=My (.tup xs)->c≠x:=λ c xs r z=>by subst z;rw[r]at mu;exact mu
 by_cases hb:b=x
 ·subst hb;rw[gZ]at q;cases q;exact new
 ·rw[hU hb]at q
  by_cases hbe:b=e
  ·have q':H b=My (.own x):=by
    rcases he with z | z
    ·exact absurd (hbe.trans z) hb
    ·rw[hbe];exact z
   rw[q]at q';cases q';obtain⟨v,hv⟩:=heo;exact⟨v,by rw[hbe];exact hv⟩
  ·refine(ok b u q).wM (λ c v hc r=>k c v ?_ r) (λ c r=>by rw[hU (nown c b r)];exact r) λ c xs r=>by rw[hU (ntup c xs r)];exact r
   rcases hc with rfl | hc
   ·exact hbe
   ·rintro rfl
    rcases he with z | z
    ·exact nown c b hc z
    ·rw[hc]at z;cases z;exact hb rfl
end
structure Un (fs ex:List Addr)(H H':Hp)(h h':Heap):Prop where
 keep:∀ b o,h.get? b=My o->H b=U5->b∉fs->b∉ex->h'.get? b=My o
 slot:∀ b o,h.get? b=My o->H b=U5->b∈fs->b∉ex->∃ sl,h'.get? b=My {o with slots:=sl}
 free:∀ b o,h.get? b=My o->H b=U5->b∉ex->H' b=U5
 there:∀ b o,h.get? b=My o->b∉ex->∃ o',h'.get? b=My o'
 qq:∀ b xs,H b=My (.tup xs)->H' b=My (.tup xs)
 qr:∀ b o u,H b=My (.frz o u)->H' b=My (.frz o u)
 uE:∀ b ps,H b=My (.tbl ps)->∃ more,H' b=My (.tbl (ps++more))
section
variable {fs fs' ex ex':List Addr}{H H1 H2:Hp}{h h1 h2 h':Heap}{a x e:Addr}{o:HO}
theorem Un.any (u:Un fs ex H H1 h h1){b:Addr}{ob:Obj}(q:h.get? b=My ob)(n:H b=U5)(hx:b∉ex):∃ sl,h1.get? b=My {ob with slots:=sl}:=by
 by_cases hb:b∈fs
 ·exact u.slot b ob q n hb hx
 ·exact⟨ob.slots,u.keep b ob q n hb hx⟩
theorem Un.kept (k:∀ b u,h.get? b=My u->h'.get? b=My u):Un fs ex H H h h' :=
 ⟨λ b ob q _ _ _=>k b ob q,λ b ob q _ _ _=>⟨ob.slots,k b ob q⟩,λ _ _ _ n _=>n,λ b ob q _=>⟨ob,k b ob q⟩,λ _ _ q=>q,λ _ _ _ q=>q,λ _ ps q=>⟨#[],by rw[q];simp⟩⟩
theorem Un.refl:Un fs ex H H h h:=Un.kept λ _ _ q=>q
theorem Un.laid (k:∀ b u,h.get? b=My u->h'.get? b=My u)(hp:h.objs.size<=a)(hn:H a=U5):Un fs ex H (upd H a o) h h' where
 keep:=λ b u q _ _ _=>k b u q
 slot:=λ b u q _ _ _=>⟨u.slots,k b u q⟩
 free:=λ b u q n _=>by rw[hU (aM (aG (av q) hp))];exact n
 there:=λ b u q _=>⟨u,k b u q⟩
 qq:=λ b xs q=>by rw[hU (iP q hn)];exact q
 qr:=λ b u xs q=>by rw[hU (iP q hn)];exact q
 uE:=λ b ps q=>⟨#[],by rw[hU (iP q hn),q];simp⟩
theorem Un.write (mu:Mut (H x))(he:e=x\/H e=My (.own x))(k:∀ b u,b≠e->h.get? b=My u->h'.get? b=My u)(heo:∃ u,h'.get? e=My u):Un fs ex H (upd H x o) h h':=by
 have hx:∀ b,H b=U5->b≠x:=λ b n z=>by subst z;rw[n]at mu;exact mu
 have hb:∀ b,H b=U5->b≠e:=λ b n z=>by
  subst z;rcases he with r | r
  ·exact hx b n r
  ·rw[n]at r;cases r
 have hm:∀ b u,H b=My u->¬ Mut (My u)->b≠x:=λ b u q nm z=>by subst z;rw[q]at mu;exact nm mu
 refine⟨λ b u q n _ _=>k b u (hb b n) q,λ b u q n _ _=>⟨u.slots,k b u (hb b n) q⟩,λ b u q n _=>by rw[hU (hx b n)];exact n,λ b u q _=>?_,
  λ b xs q=>by rw[hU (hm b _ q λ z=>z)];exact q,λ b u xs q=>by rw[hU (hm b _ q λ z=>z)];exact q,λ b ps q=>⟨#[],by rw[hU (hm b _ q λ z=>z),q];simp⟩⟩
 by_cases hbe:b=e
 ·subst hbe;exact heo
 ·exact⟨u,k b u hbe q⟩
end
def trk (h:Heap)(H:Hp):List Addr:=(U8 h.objs.size).filter λ a=>(H a).isSome
def Ai (h:Heap)(H:Hp):Heap:=PySem.W.hideAll h (trk h H)
theorem FW (h:Heap)(H:Hp):(Ai h H).objs.size=h.objs.size:=PySem.W.hideAll_size _ _
theorem G5 {h:Heap}{H:Hp}{b:Addr}{o:Obj}(e:h.get? b=My o)(n:H b=U5):(Ai h H).get? b=My o :=
 PySem.W.hideAll_get _ e λ hm=>by have q:(H b).isSome=U6:=(bH.mp hm).2;rw[n]at q;simp at q
theorem Kr {h:Heap}{H:Hp}{b:Addr}{o:Obj}(e:(Ai h H).get? b=My o):h.get? b=My o/\H b=U5:=by
 have e':h.get? b=My o:=PySem.W.of_hideAll (trk h H) e;refine⟨e',?_⟩;cases q:H b with
 | none=>rfl
 | some x =>have hm:b∈trk h H:=bH.mpr ⟨aC.mpr (av e'),by simp[q]⟩;have z:(Ai h H).get? b=U5:=PySem.W.hideAll_none (trk h H) hm;rw[z]at e;cases e
def lH (g h:Heap)(L:Addr):gO:=(U8 h.objs.size).filterMap λ a=>if a=L\/(g.get? a).isSome=U6 then U5 else (h.get? a).map λ o=>(a,o)
theorem BK {g h:Heap}{L a:Addr}{o:Obj}(h1:a≠L)(h2:g.get? a=U5)(h3:h.get? a=My o):(a,o)∈lH g h L :=
 de.mpr ⟨a,aC.mpr (av h3),by simp[h1,h2,h3]⟩
set_option tactic.hygienic true in
theorem ko {g h:Heap}{L:Addr}{p:Addr×Obj}(hp:p∈lH g h L):p.1≠L/\g.get? p.1=U5/\h.get? p.1=My p.2:=by
 obtain⟨b,_,e⟩:=de.mp hp;split at e
 ·cases e
 ·rename_i hn
  cases q:h.get? b with
  | none=>rw[q]at e;simp at e
  | some u =>
   rw[q]at e;simp only[cq,Option.some.injEq]at e;subst e;refine⟨λ z=>hn (.inl z),?_,q⟩;show g.get? b=U5;cases r:g.get? b with
   | none=>rfl
   | some v=>exact(hn (.inr (by simp[r]))).elim
structure Mod (K:gK)(mg:gG)(base:Heap):Prop where
 kin:K.In base
 glob:base.Ns mainGlobals mg
 blt:∃ mb,base.Ns builtinsNs mb/\∀ x:Str,x≠"__name__"->mb x=bootBuiltins x
 nolimit:base.NoLimit
set_option genInjectivity false in
set_option genSizeOf false in
structure Cx where
 prog:Program
 w:World
 K:gK
 mg:Str->gJ gL
 base:Heap
 A:Around
 N:List Str
 s₀:gM
 H₀:Hp
 env:Env
 outer:List Env
 stack:List Env
 ex:List Addr
 fn:Str->Bool
 calm:Bool
 pn:gO
 xe:gL->gM->Prop
def frs (l:List Env):List Addr:=l.filterMap (·.frame)
abbrev Cx.fs (X:Cx):List Addr:=frs X.outer
def Vis (sc:Scope)(x:Str):Prop:=sc.names.lookup x=My .local\/sc.names.lookup x=My .cell\/sc.names.lookup x=My .free
def Loc (sc:Scope)(x:Str):Prop:=sc.names.lookup x=My .local\/sc.names.lookup x=My .cell
def Look (env:Env)(h:Heap)(m:gG)(x:Str)(u:gL):Prop :=
 (env.kindOf x=My .local/\m x=My u)\/((env.kindOf x=My .cell\/env.kindOf x=My .free)/\∃ c,env.cells.lookup x=My c/\h.IsCell c (My u))
structure Cx.Ok (X:Cx):Prop where
 mod:Mod X.K X.mg X.base
 kind:X.env.scope.kind=.function
 glob:X.env.globals=mainGlobals
 blt:X.env.builtins=builtinsNs
 above:X.s₀.heap.objs.size<=X.env.locals
 inj:∀ x y c,X.env.cells.lookup x=My c->X.env.cells.lookup y=My c->x=y
 has:∀ x,(X.env.kindOf x=My .cell\/X.env.kindOf x=My .free)->∃ c,X.env.cells.lookup x=My c
 cab:∀ x c,X.fn x=U6->X.env.cells.lookup x=My c->X.s₀.heap.objs.size<=c
 hd:X.calm=U6->X.A.handled=U5
 frames:X.A.frames=My X.stack
 stk:X.stack=X.outer\/(X.stack=X.env::X.outer/\X.env.frame=My X.env.locals)
 exf:∀ b∈X.ex,b≠X.env.locals/\∀ x c,X.env.cells.lookup x=My c->c≠b
 bs:∀ b o,X.base.get? b=My o->X.s₀.heap.get? b=My o/\X.H₀ b=U5
 bsz:X.base.objs.size<=X.s₀.heap.objs.size
 Dj:∀ b o,X.base.get? b=My o->b∉X.ex
 G6:∀ b∈X.ex,b∉X.fs
 uF:X.s₀.heap.FunFrames X.base X.outer
 frf:∀ b∈X.fs,X.H₀ b=U5
structure Inv (X:Cx)(pins:gO)(σ:List (gJ V))(H:Hp)(s:gM):Prop where
 ok:X.Ok
 os:s.os=X.s₀.os
 bare:AllBare s.gens
 base:Un X.fs X.ex X.H₀ H X.s₀.heap s.heap
 loc:∃ m,s.heap.Ns X.env.locals m/\∀ (i:Nat) (x:Str) (v:V),X.N[i]?=My x->σ[i]?=My (My v)->Vis X.env.scope x->∃ u,RelV v u/\Look X.env s.heap m x u
 cell:∀ x c,X.env.cells.lookup x=My c->∃ v,s.heap.IsCell c v
 free:H X.env.locals=U5
 mK:∀ x c,X.env.cells.lookup x=My c->H c=U5
 pin:∀ p∈X.pn++pins,s.heap.get? p.1=My p.2/\H p.1=U5/\p.1≠X.env.locals/\p.1∉X.fs/\∀ v,p.2.data≠.cell v
 hok:HOk X.prog X.w H s.heap
 len:σ.length=X.N.length
section
variable {X:Cx}{pins:gO}{σ:List (gJ V)}{H H':Hp}{s:gM}{h':Heap}
theorem Cx.Ok.SR (ok:X.Ok){b:Addr}{o:Obj}(e:X.base.get? b=My o):b∉X.fs:=λ hb=>by have:=(ok.uF.mem hb).1;rw[e]at this;cases this
theorem Inv.bs (I:Inv X pins σ H s):∀ b o,X.base.get? b=My o->s.heap.get? b=My o/\H b=U5:=λ b o e =>⟨I.base.keep b o (I.ok.bs b o e).1 (I.ok.bs b o e).2 (I.ok.SR e) (I.ok.Dj b o e),I.base.free b o (I.ok.bs b o e).1 (I.ok.bs b o e).2 (I.ok.Dj b o e)⟩
theorem Inv.bk (I:Inv X pins σ H s):∀ b o,X.base.get? b=My o->s.heap.get? b=My o:=λ b o e=>(I.bs b o e).1
theorem Inv.mod (I:Inv X pins σ H s):Mod X.K X.mg X.base:=I.ok.mod
theorem Inv.kIn (I:Inv X pins σ H s):X.K.In s.heap:=I.ok.mod.kin.keeps I.bk
theorem Inv.fr (I:Inv X pins σ H s):∃ m,Fr X.base X.env.locals s.heap m :=
 let ⟨m,hn,_⟩:=I.loc
 ⟨m,hn,I.bk,bD I.ok.bsz I.ok.above⟩
theorem Inv.lt (I:Inv X pins σ H s):X.env.locals<s.heap.objs.size:=let ⟨_,hn,_⟩:=I.loc;hn.lt
theorem Inv.sz (I:Inv X pins σ H s):X.s₀.heap.objs.size<=s.heap.objs.size:=bD I.ok.above (d9 I.lt)
theorem Inv.SS (I:Inv X pins σ H s){a:Addr}(h:s.heap.objs.size<=a):a∉X.fs:=λ hb=>by obtain⟨_,o,ho,_⟩:=I.ok.uF.mem hb;exact absurd (aG (av ho) (bD I.sz h)) (aV _)
theorem Inv.cne (I:Inv X pins σ H s):∀ x c,X.env.cells.lookup x=My c->c≠X.env.locals:=λ x c e z=>by obtain⟨v,o,ho,hd⟩:=I.cell x c e;obtain⟨m,⟨o',es,ep,ho',hd',_⟩,_⟩:=I.loc;rw[z,ho']at ho;cases ho;rw[hd']at hd;cases hd
theorem Inv.uF (I:Inv X pins σ H s):s.heap.FunFrames X.base X.outer:=by
 have all:∀ (l:List Env),(∀ b∈frs l,b∈X.fs)->X.s₀.heap.FunFrames X.base l->s.heap.FunFrames X.base l:=by
  intro l;induction l with
  | nil=>intro _ _;trivial
  | cons env r ih =>intro hs hl;obtain⟨hk,⟨L,o,hf,hn,ho,hd⟩,hr⟩:=hl;have hL:L∈X.fs:=hs L (by unfold frs;rw[bK,hf];exact aB);obtain⟨sl,e⟩:=I.base.slot L o ho (I.ok.frf L hL) hL λ z=>I.ok.G6 L z hL;exact⟨hk,⟨L,_,hf,hn,e,hd⟩,ih (λ b hb=>hs b (by unfold frs;rw[bK,hf];exact ay _ hb)) hr⟩
 exact all X.outer (λ _ hb=>hb) I.ok.uF
theorem Inv.stack (I:Inv X pins σ H s):s.heap.FunFrames X.base X.stack:=by
 rcases I.ok.stk with e | ⟨e,hf⟩
 ·rw[e];exact I.uF
 ·rw[e];obtain⟨m,hn,_⟩:=I.loc;refine .cons (by rw[I.ok.kind];decide) hf hn ?_ I.uF;exact cE (bD I.ok.bsz I.ok.above)
theorem Inv.wN (I:Inv X pins σ H s):∀ b∈frs X.stack,b∈X.env.locals::X.fs:=λ b hb=>by
 rcases I.ok.stk with e | ⟨e,hf⟩
 ·rw[e]at hb;exact ay _ hb
 ·rw[e]at hb;unfold frs at hb;rw[bK,hf]at hb;exact hb
theorem Inv.sX (I:Inv X pins σ H s):∀ b∈frs X.stack,H b=U5:=λ b hb=>by
 rcases aD.mp (I.wN b hb) with e | hb
 ·rw[e];exact I.free
 ·obtain⟨_,o,ho,_⟩:=I.ok.uF.mem hb;exact I.base.free b o ho (I.ok.frf b hb) λ z=>I.ok.G6 b z hb
theorem Inv.step {g':Array GenState}{t':Nat}{d':Drawn}{ch:List Addr}(I:Inv X pins σ H s)
  (hch:∀ b∈ch,(b∈X.ex\/X.s₀.heap.objs.size<=b)/\b≠X.env.locals/\(∀ x c,X.env.cells.lookup x=My c->c≠b)/\∀ p∈X.pn++pins,p.1≠b)
  (keep:∀ b o,b≠X.env.locals->b∉X.fs->b∉ch->s.heap.get? b=My o->H b=U5->h'.get? b=My o)
  (slot:∀ b o,b≠X.env.locals->b∈X.fs->b∉ch->s.heap.get? b=My o->H b=U5->∃ sl,h'.get? b=My {o with slots:=sl}) (free:∀ b o,b∉ch->s.heap.get? b=My o->H b=U5->H' b=U5)
  (there:∀ b o,b∉ch->s.heap.get? b=My o->∃ o',h'.get? b=My o')
  (qq:∀ b xs,H b=My (.tup xs)->H' b=My (.tup xs)) (qr:∀ b o u,H b=My (.frz o u)->H' b=My (.frz o u)) (uE:∀ b ps,H b=My (.tbl ps)->∃ more,H' b=My (.tbl (ps++more)))
  (ns:∀ m,s.heap.Ns X.env.locals m->h'.Ns X.env.locals m) (hok:HOk X.prog X.w H' h') (hg:AllBare g') :
  Inv X pins σ H' {s with heap:=h',gens:=g',drawn:=d',toks:=t'}:=by
 have neL:∀ b o,X.s₀.heap.get? b=My o->b≠X.env.locals:=λ b o e=>aM (aG (av e) I.ok.above);have neC:∀ b o,X.s₀.heap.get? b=My o->b∉X.ex->b∉ch:=λ b o e hx hb=>by
  rcases (hch b hb).1 with z | z
  ·exact hx z
  ·exact absurd (aG (av e) z) (aV _)
 have cellK:∀ x c,X.env.cells.lookup x=My c->∀ v,s.heap.IsCell c v->h'.IsCell c v:=λ x c e v ⟨o,ho,hd⟩=>by
  have nch:c∉ch:=λ z=>(hch c z).2.2.1 x c e rfl;by_cases hc:c∈X.fs
  ·obtain⟨sl,q⟩:=slot c o (I.cne x c e) hc nch ho (I.mK x c e);exact⟨_,q,hd⟩
  ·exact⟨o,keep c o (I.cne x c e) hc nch ho (I.mK x c e),hd⟩
 refine⟨I.ok,I.os,hg,⟨λ b o e n hb hx=>?_,λ b o e n hb hx=>?_,λ b o e n hx=>?_,λ b o e hx=>?_,λ b xs e=>qq b xs (I.base.qq b xs e),λ b o xs e=>qr b o xs (I.base.qr b o xs e),λ b ps e=>?_⟩,?_,λ x c e=>?_,?_,λ x c e=>?_,λ p hp=>?_,hok,I.len⟩
 ·exact keep b o (neL b o e) hb (neC b o e hx) (I.base.keep b o e n hb hx) (I.base.free b o e n hx)
 ·obtain⟨sl,e1⟩:=I.base.slot b o e n hb hx;obtain⟨sl',e2⟩:=slot b _ (neL b o e) hb (neC b o e hx) e1 (I.base.free b o e n hx);exact⟨sl',e2⟩
 ·obtain⟨o',e1⟩:=I.base.there b o e hx;exact free b o' (neC b o e hx) e1 (I.base.free b o e n hx)
 ·obtain⟨o',e1⟩:=I.base.there b o e hx;exact there b o' (neC b o e hx) e1
 ·obtain⟨m1,e1⟩:=I.base.uE b ps e;obtain⟨m2,e2⟩:=uE b _ e1;exact⟨m1++m2,by rw[e2,Array.append_assoc]⟩
 ·obtain⟨m,hn,hl⟩:=I.loc
  refine⟨m,ns m hn,λ i x v e1 e2 e3=>?_⟩;obtain⟨u,r,l⟩:=hl i x v e1 e2 e3;refine⟨u,r,?_⟩;rcases l with l | ⟨k,c,e,z⟩
  ·exact .inl l
  ·exact .inr ⟨k,c,e,cellK x c e _ z⟩
 ·obtain⟨v,z⟩:=I.cell x c e;exact⟨v,cellK x c e v z⟩
 ·obtain⟨m,⟨o,_,_,ho,_⟩,_⟩:=I.loc;exact free _ o (λ z=>(hch _ z).2.1 rfl) ho I.free
 ·obtain⟨v,o,ho,hd⟩:=I.cell x c e;exact free c o (λ z=>(hch c z).2.2.1 x c e rfl) ho (I.mK x c e)
 ·obtain⟨e,n,ne,nf,d⟩:=I.pin p hp;have nch:p.1∉ch:=λ z=>(hch p.1 z).2.2.2 p hp rfl;exact⟨keep p.1 p.2 ne nf nch e n,free p.1 p.2 nch e n,ne,nf,d⟩
theorem Inv.un {t':Nat}(I:Inv X pins σ H s)(u:Un X.fs [] H H' s.heap h')(hok:HOk X.prog X.w H' h'):Inv X pins σ H' {s with heap:=h',toks:=t'}:=by obtain⟨m,⟨o,es,ep,ho,r⟩,_⟩:=id I.loc;obtain⟨sl,hL⟩:=u.any ho I.free (by simp);exact I.step (g':=s.gens) (d':=s.drawn) (ch:=[]) (λ _ z=>nomatch z) (λ b o _ hb _ e n=>u.keep b o e n hb (by simp)) (λ b o _ hb _ e n=>u.slot b o e n hb (by simp)) (λ b o _ e n=>u.free b o e n (by simp)) (λ b o _ e=>u.there b o e (by simp)) u.qq u.qr u.uE (λ m' hm=>by obtain⟨o',es',ep',ho',r'⟩:=hm;rw[ho]at ho';cases ho';exact⟨_,es',ep',hL,r'⟩) hok I.bare
theorem Inv.call {g':Array GenState}{t':Nat}{d':Drawn}{ch:List Addr}(I:Inv X pins σ H s)(u:Un (frs X.stack) ch H H' s.heap h')(hok:HOk X.prog X.w H' h')(hg:AllBare g')
  (hch:∀ b∈ch,(b∈X.ex\/X.s₀.heap.objs.size<=b)/\b≠X.env.locals/\(∀ x c,X.env.cells.lookup x=My c->c≠b)/\∀ p∈X.pn++pins,p.1≠b) :
  Inv X pins σ H' {s with heap:=h',gens:=g',drawn:=d',toks:=t'}:=by
 obtain⟨m,⟨o,es,ep,ho,r⟩,_⟩:=id I.loc;obtain⟨sl,hL⟩:=u.any ho I.free λ z=>(hch _ z).2.1 rfl;exact I.step (ch:=ch) hch (λ b o hL hb hc e n=>u.keep b o e n (λ z=>(aD.mp (I.wN b z)).elim hL hb) hc) (λ b o _ _ hc e n=>u.any e n hc) (λ b o hc e n=>u.free b o e n hc) (λ b o hc e=>u.there b o e hc) u.qq u.qr u.uE (λ m' hm=>by obtain⟨o',es',ep',ho',r'⟩:=hm;rw[ho]at ho';cases ho';exact⟨_,es',ep',hL,r'⟩) hok hg
theorem Inv.turned {t':Nat}{it:Addr}(I:Inv X pins σ H s)(k:∀ b o,b≠it->s.heap.get? b=My o->h'.get? b=My o)(hn:H it=U5)(hL:it≠X.env.locals)
  (h1:it∈X.ex\/X.s₀.heap.objs.size<=it) (h2:∀ x c,X.env.cells.lookup x=My c->c≠it) (h3:∀ p∈X.pn++pins,p.1≠it):Inv X pins σ H {s with heap:=h',toks:=t'}:=by
 have nit:∀ b u,H b=My u->b≠it:=λ b u e z=>by rw[z,hn]at e;cases e
 refine I.step (g':=s.gens) (d':=s.drawn) (ch:=[it]) (λ b hb=>?_) (λ b o _ _ hc e _=>k b o (λ z=>hc (by simp[z])) e) (λ b o _ _ hc e _=>⟨o.slots,k b o (λ z=>hc (by simp[z])) e⟩) (λ _ _ _ _ n=>n)
  (λ b o hc e=>⟨o,k b o (λ z=>hc (by simp[z])) e⟩) (λ _ _ e=>e) (λ _ _ _ e=>e) (λ b ps e=>⟨#[],by rw[e];simp⟩) (λ m hm=>?_) (λ b u e=>?_) I.bare
 ·have e:b=it:=by simpa using hb
  subst e;exact⟨h1,hL,h2,h3⟩
 ·obtain⟨o,es,ep,ho,r⟩:=hm;exact⟨o,es,ep,k _ o (aZ hL) ho,r⟩
 ·refine(I.hok b u e).wM (λ c v hc q=>k c v ?_ q) (λ _ q=>q) λ _ _ q=>q
  rcases hc with z | z
  ·rw[z];exact nit b u e
  ·exact nit c _ z
theorem Inv.tok (I:Inv X pins σ H s)(t:Nat):Inv X pins σ H {s with toks:=t}:=I.un (h':=s.heap) (t':=t) Un.refl I.hok
theorem Inv.kept {t':Nat}(I:Inv X pins σ H s)(k:∀ b u,s.heap.get? b=My u->h'.get? b=My u):Inv X pins σ H {s with heap:=h',toks:=t'}:=I.un (Un.kept k) (I.hok.kept k)
theorem Inv.laid {a:Addr}{o:HO}{t':Nat}(I:Inv X pins σ H s)(k:∀ b u,s.heap.get? b=My u->h'.get? b=My u)(hp:s.heap.objs.size<=a)(new:jH X.prog X.w (upd H a o) h' a o) :
  Inv X pins σ (upd H a o) {s with heap:=h',toks:=t'}:=I.un (Un.laid k hp (I.hok.fresh hp)) (I.hok.laid k hp new)
theorem Inv.write {x e:Addr}{o:HO}{t':Nat}(I:Inv X pins σ H s)(mu:Mut (H x))(he:e=x\/H e=My (.own x))(k:∀ b u,b≠e->s.heap.get? b=My u->h'.get? b=My u)(heo:∃ u,h'.get? e=My u)
  (new:jH X.prog X.w (upd H x o) h' x o):Inv X pins σ (upd H x o) {s with heap:=h',toks:=t'}:=I.un (Un.write mu he k heo) (I.hok.write mu he k heo new)
theorem Inv.weak {σ':List (gJ V)}(I:Inv X pins σ H s)(hl:σ'.length=σ.length)(w:∀ (i:Nat) v,σ'[i]?=My (My v)->σ[i]?=My (My v)):Inv X pins σ' H s :=
 ⟨I.ok,I.os,I.bare,I.base,let ⟨m,hn,hl'⟩:=I.loc;⟨m,hn,λ i x v e1 e2 e3=>hl' i x v e1 (w i v e2) e3⟩,I.cell,I.free,I.mK,I.pin,I.hok,hl.trans I.len⟩
theorem Inv.wc {pins':gO}(I:Inv X pins σ H s)(h:∀ p∈pins',s.heap.get? p.1=My p.2/\H p.1=U5/\p.1≠X.env.locals/\p.1∉X.fs/\∀ v,p.2.data≠.cell v):Inv X pins' σ H s :=
 ⟨I.ok,I.os,I.bare,I.base,I.loc,I.cell,I.free,I.mK,λ p hp=>(a_.mp hp).elim (λ z=>I.pin p (bc _ z)) (h p),I.hok,I.len⟩
theorem wO {N:List Str}(hN:N.Nodup){i j:Nat}{x:Str}(a:N[i]?=My x)(b:N[j]?=My x):i=j:=by obtain⟨h1,e1⟩:=aN.mp a;obtain⟨h2,e2⟩:=aN.mp b;exact(List.getElem_inj hN).mp (e1.trans e2.symm)
theorem zv {M:Model}{A:Around}{E:gH}{i:Nat}{x:Str}{v:V}{u:gL}{Q:Unit->gM->Prop}(I:Inv X pins σ H s)(hN:X.N.Nodup)(hi:X.N[i]?=My x)(hx:Loc X.env.scope x)(r:RelV v u)
  (h:∀ s',Inv X pins (σ.set i (My v)) H s'->(∃ a,Heap.SameBut a s.heap s'.heap/\(a=X.env.locals\/X.env.cells.lookup x=My a))->Q () s') (hf:X.fn x=U6\/X.env.scope.names.lookup x=My .local):wpAny M A (storeName X.env x u) Q E s:=by
 obtain⟨m,hn,hl⟩:=id I.loc;have hcls:(X.env.scope.kind==.class || (X.env.scope.kind==.module&&X.env.locals != X.env.globals))=U7:=by rw[I.ok.kind];rfl
 have hiσ:i<σ.length:=by rw[I.len];exact(aN.mp hi).1
 have cne:=I.cne;have tracked:∀ {a:Addr} {h':Heap},(∃ o,s.heap.get? a=My o/\H a=U5)->Heap.SameBut a s.heap h'->HOk X.prog X.w H h':=λ{a h'} ha hs b ob e=>by
  obtain⟨_,_,hfree⟩:=ha;refine(I.hok b ob e).wM (λ c w' hc q=>(hs.2 c ?_).trans q) (λ _ q=>q) λ _ _ q=>q;rintro rfl;rcases hc with rfl | hc
  ·rw[hfree]at e;cases e
  ·rw[hfree]at hc;cases hc
 rcases hx with hk | hk
 ·refine wpAny_storeName_local hk hn (λ h' hn' hs=>?_) hcls
  obtain⟨oL,_,_,hoL,_⟩:=id hn;refine h _ ⟨I.ok,I.os,I.bare,⟨λ b o e n hb hx=>?_,λ b o e n hb hx=>?_,I.base.free,λ b o e hx=>?_,I.base.qq,I.base.qr,I.base.uE⟩,⟨_,hn',λ j y v' e1 e2 e3=>?_⟩,λ y c e=>?_,I.free,I.mK,λ p hp=>?_,tracked ⟨oL,hoL,I.free⟩ hs,by simpa using I.len⟩ ⟨_,hs,.inl rfl⟩
  ·exact(hs.2 b (aM (aG (av e) I.ok.above))).trans (I.base.keep b o e n hb hx)
  ·obtain⟨sl,e1⟩:=I.base.slot b o e n hb hx;exact⟨sl,(hs.2 b (aM (aG (av e) I.ok.above))).trans e1⟩
  ·obtain⟨o',e1⟩:=I.base.there b o e hx;exact⟨o',(hs.2 b (aM (aG (av e) I.ok.above))).trans e1⟩
  ·by_cases hj:j=i
   ·subst hj;rw[hi]at e1;cases e1;rw[cv hiσ]at e2;cases e2;exact⟨u,r,.inl ⟨hk,by simp⟩⟩
   ·rw[bZ (aZ hj)]at e2
    obtain⟨u',r',q⟩:=hl j y v' e1 e2 e3;refine⟨u',r',?_⟩;rcases q with⟨k,e⟩ | ⟨k,c,e,z⟩
    ·refine .inl ⟨k,?_⟩;have:y≠x:=λ e=>hj (wO hN e1 (e▸hi));simp[this,e]
    ·exact .inr ⟨k,c,e,z.sameBut hs (cne y c e)⟩
  ·obtain⟨w',z⟩:=I.cell y c e;exact⟨w',z.sameBut hs (cne y c e)⟩
  ·obtain⟨e,n,ne,nf,d⟩:=I.pin p hp;exact⟨(hs.2 p.1 ne).trans e,n,ne,nf,d⟩
 ·have hfn:X.fn x=U6:=by
   rcases hf with z | z
   ·exact z
   ·rw[z]at hk;cases hk
  obtain⟨c,hc⟩:=I.ok.has x (.inl hk);obtain⟨w',z⟩:=I.cell x c hc;refine wpAny_storeName_cell I.ok.kind hk hc z (λ h' hc' hs=>?_);obtain⟨oc,hoc,hocd⟩:=id z;refine h {s with heap:=h'} ⟨I.ok,I.os,I.bare,⟨λ b o e n hb hx=>?_,λ b o e n hb hx=>?_,I.base.free,λ b o e hx=>?_,I.base.qq,I.base.qr,I.base.uE⟩,⟨m,hn.sameBut hs (aZ (cne x c hc)),λ j y v' e1 e2 e3=>?_⟩,λ y c' e=>?_,I.free,I.mK,λ p hp=>?_,tracked ⟨oc,hoc,I.mK x c hc⟩ hs,by simpa using I.len⟩ ⟨c,hs,.inr hc⟩
  ·exact(hs.2 b (aM (aG (av e) (I.ok.cab x c hfn hc)))).trans (I.base.keep b o e n hb hx)
  ·obtain⟨sl,e1⟩:=I.base.slot b o e n hb hx;exact⟨sl,(hs.2 b (aM (aG (av e) (I.ok.cab x c hfn hc)))).trans e1⟩
  ·obtain⟨o',e1⟩:=I.base.there b o e hx;exact⟨o',(hs.2 b (aM (aG (av e) (I.ok.cab x c hfn hc)))).trans e1⟩
  ·by_cases hj:j=i
   ·subst hj;rw[hi]at e1;cases e1;rw[cv hiσ]at e2;cases e2;exact⟨u,r,.inr ⟨.inl hk,c,hc,hc'⟩⟩
   ·rw[bZ (aZ hj)]at e2
    obtain⟨u',r',q⟩:=hl j y v' e1 e2 e3;refine⟨u',r',?_⟩;rcases q with q | ⟨k,c',e,z'⟩
    ·exact .inl q
    ·refine .inr ⟨k,c',e,z'.sameBut hs ?_⟩;rintro rfl;exact hj (wO hN e1 (I.ok.inj _ _ _ e hc▸hi))
  ·by_cases hcc:c'=c
   ·subst hcc;exact⟨_,hc'⟩
   ·obtain⟨w2,z2⟩:=I.cell y c' e;exact⟨w2,z2.sameBut hs hcc⟩
  ·obtain⟨e,n,ne,nf,d⟩:=I.pin p hp;refine⟨(hs.2 p.1 ?_).trans e,n,ne,nf,d⟩;intro q;rw[q,hoc]at e;have q':oc=p.2:=ao e;exact d w' (by rw[<-q'];exact hocd)
theorem oM {M:Model}{A:Around}{E:gH}{i:Nat}{x:Str}{v:V}{u:gL}{Q:Unit->gM->Prop}(I:Inv X pins σ H s)(hN:X.N.Nodup)(hi:X.N[i]?=My x)(hx:Loc X.env.scope x)(r:RelV v u)
  (h:∀ s',Inv X pins (σ.set i (My v)) H s'->Q () s') (hf:X.fn x=U6\/X.env.scope.names.lookup x=My .local:=by trivial):wpAny M A (storeName X.env x u) Q E s :=
 zv I hN hi hx r (λ s' I' _=>h s' I') hf
theorem Inv.QA {s':gM}{ch:List Addr}(I:Inv X pins σ H s)(ho:s'.os=s.os)(u:Un (frs X.stack) ch H H' s.heap s'.heap)(hok:HOk X.prog X.w H' s'.heap)(hg:AllBare s'.gens)
  (hch:∀ b∈ch,(b∈X.ex\/X.s₀.heap.objs.size<=b)/\b≠X.env.locals/\(∀ x c,X.env.cells.lookup x=My c->c≠b)/\∀ p∈X.pn++pins,p.1≠b):Inv X pins σ H' s':=by
 obtain⟨h',g',d',t',o'⟩:=s';have e:o'=s.os:=ho;subst e;exact I.call (g':=g') (t':=t') (d':=d') u hok hg hch
end
abbrev XK:=gL->gJ Addr->Hp->Prop
abbrev St:=List (gJ V)
abbrev VK:=V->Hp->Prop
abbrev TE:=St->Hp->VK->Prop
abbrev TT:=St->Hp->(Bool->Hp->Prop)->Prop
abbrev TA:=St->Hp->(List V->Hp->Prop)->Prop
set_option genInjectivity false in
set_option genSizeOf false in
structure Ends where
 nx:St->Hp->Prop
 rt:VK
 bk:St->Hp->Prop:=λ _ _=>False
 ct:St->Hp->Prop:=λ _ _=>False
abbrev TS:=Ends->St->Hp->Prop
def EP (X:Cx)(pins:gO)(σ:St)(Q:VK)(u:gL)(s':gM):Prop:=∃ v H',Inv X pins σ H' s'/\RelV v u/\Q v H'
def TP (X:Cx)(pins:gO)(σ:St)(Q:Bool->Hp->Prop)(b:Bool)(s':gM):Prop:=∃ H',Inv X pins σ H' s'/\Q b H'
def AP (X:Cx)(pins:gO)(σ:St)(Q:List V->Hp->Prop)(us:List gL)(s':gM):Prop:=∃ vs H',Inv X pins σ H' s'/\Vals vs us/\Q vs H'
def SP (X:Cx)(pins:gO)(D:Ends)(f:Flow)(s':gM):Prop :=
 match f with
 | .next=>∃ σ' H',Inv X pins σ' H' s'/\D.nx σ' H'
 | .brk=>∃ σ' H',Inv X pins σ' H' s'/\D.bk σ' H'
 | .cont=>∃ σ' H',Inv X pins σ' H' s'/\D.ct σ' H'
 | .ret u=>∃ v σ' H',Inv X pins σ' H' s'/\RelV v u/\D.rt v H'
def PE (X:Cx)(e:Expr)(t:TE):Prop :=
 ∀ (pins:gO) (s:gM) (σ:St) (H:Hp) (Q:VK),Inv X pins σ H s->t σ H Q->wpAny (model X.prog X.w) X.A (eval e X.env) (EP X pins σ Q) X.xe s
def PT (X:Cx)(e:Expr)(t:TT):Prop :=
 ∀ (pins:gO) (s:gM) (σ:St) (H:Hp) (Q:Bool->Hp->Prop),Inv X pins σ H s->t σ H Q->wpAny (model X.prog X.w) X.A (isTrue e X.env (eval e X.env)) (TP X pins σ Q) X.xe s
def PW (X:Cx)(e:Expr)(t:TT):Prop :=
 ∀ (whole:Sem gL) (pins:gO) (s:gM) (σ:St) (H:Hp) (Q:Bool->Hp->Prop),Inv X pins σ H s->t σ H Q->wpAny (model X.prog X.w) X.A (isTrue e X.env whole) (TP X pins σ Q) X.xe s
theorem PW.pt {X:Cx}{e:Expr}{t:TT}(h:PW X e t):PT X e t:=h _
def PA (X:Cx)(es:List Expr)(t:TA):Prop :=
 ∀ (pos:Pos) (pins:gO) (s:gM) (σ:St) (H:Hp) (Q:List V->Hp->Prop),Inv X pins σ H s->t σ H Q->wpAny (model X.prog X.w) X.A (spliced (backTo pos (starEach es X.env))) (AP X pins σ Q) X.xe s
def PS (X:Cx)(st:Stmt)(t:TS):Prop :=
 ∀ (pins:gO) (s:gM) (σ:St) (H:Hp) (D:Ends),Inv X pins σ H s->t D σ H->wpAny (model X.prog X.w) X.A (exec st X.env) (SP X pins D) X.xe s
def PSs (X:Cx)(st:List Stmt)(t:TS):Prop :=
 ∀ (pins:gO) (s:gM) (σ:St) (H:Hp) (D:Ends),Inv X pins σ H s->t D σ H->wpAny (model X.prog X.w) X.A (execs st X.env) (SP X pins D) X.xe s
theorem thn {α:Type}{t:Sem α}{Q Q':α->gM->Prop}{M:Model}{A:Around}{E:gH}{s:gM}(h:wpAny M A t Q E s)(hQ:∀ a s,Q a s->Q' a s):wpAny M A t Q' E s:=dh h hQ λ _ _ x=>x
section
variable {X:Cx}
theorem bin {a b:Expr}{ta tb:TE}(ha:PE X a ta)(hb:PE X b tb){pins:gO}{s:gM}{σ:St}{H:Hp}{R:V->V->Hp->Prop}(I:Inv X pins σ H s)(h:ta σ H λ x H1=>tb σ H1 λ y H2=>R x y H2)
  {α:Type} {Q:α->gM->Prop} {f:gL->gL->Sem α}
  (hf:∀ v u s2 x y H2,Inv X pins σ H2 s2->RelV x v->RelV y u->R x y H2->wpAny (model X.prog X.w) X.A (f v u) Q X.xe s2) :
  wpAny (model X.prog X.w) X.A (eval a X.env) (λ v s₁=>wpAny (model X.prog X.w) X.A (eval b X.env) (λ u s₂=>wpAny (model X.prog X.w) X.A (f v u) Q X.xe s₂) X.xe s₁) X.xe s:=by
 refine thn (ha pins s σ H _ I h) λ v s1 ⟨x,H1,I1,r1,q1⟩=>?_;refine thn (hb pins s1 σ H1 _ I1 q1) λ u s2 ⟨y,H2,I2,r2,q2⟩=>?_;exact hf v u s2 x y H2 I2 r1 r2 q2
def iG (i:Nat):TE:=λ σ H Q=>∃ v,σ[i]?=My (My v)/\Q v H
def tC (v:V):TE:=λ _ H Q=>Q v H
theorem G7 {i:Nat}{x:Str}{pos:Pos}(hN:X.N[i]?=My x)(hv:Vis X.env.scope x)(hd:(x==("__debug__":Str))=U7:=by decide)(hcd:(x==("__classdict__":Str))=U7:=by decide):PE X (.Name x pos) (iG i):=by
 intro pins s σ H Q I h;obtain⟨v,e,h⟩:=h;obtain⟨m,hn,hl⟩:=I.loc;obtain⟨u,r,l⟩:=hl i x v hN e hv;have fin:EP X pins σ Q u s:=⟨v,H,I,r,h⟩;rcases l with⟨hk,hm⟩ | ⟨hk,c,hc,hcell⟩
 ·exact wpAny_Name (wpAny_loadName_local I.ok.kind hk hn hm fin) hd
 ·rcases hk with hk | hk
  ·exact wpAny_Name (wpAny_loadName_cell I.ok.kind hk hc hcell fin) hd
  ·exact wpAny_Name (wpAny_loadName_free I.ok.kind hk hc hcell fin hcd) hd
theorem ic {i j pos}:PE X (.Constant (.int i) j pos) (tC (.int i)):=λ _ _ _ H _ I h=>wpAny_Constant_int ⟨.int i,H,I.tok _,⟨_,rfl⟩,h⟩
theorem wQ {b j pos}:PE X (.Constant (.bool b) j pos) (tC (.bl b)):=λ _ _ _ H _ I h=>Constant_bool ⟨.bl b,H,I,rfl,h⟩
theorem Dk {j pos}:PE X (.Constant .none j pos) (tC .non):=λ _ _ _ H _ I h=>Constant_none ⟨.non,H,I,rfl,h⟩
theorem Aj {x j pos}:PE X (.Constant (.str x) j pos) (tC (.str x)):=λ _ _ _ H _ I h=>Calls.Constant_str ⟨.str x,H,I.tok _,⟨_,rfl⟩,h⟩
def Gl (X:Cx)(x:Str):Prop:=X.env.kindOf x=My .globalImplicit
theorem sY {E:gH}{pins:gO}{s:gM}{σ:St}{H:Hp}{x:Str}{u:gL}{pos:Pos}{Q:gH}(I:Inv X pins σ H s)(hg:Gl X x)(hm:X.mg x=My u)(h:Q u s)
  (hd:(x==("__debug__":Str))=U7:=by decide):wpAny (model X.prog X.w) X.A (eval (.Name x pos) X.env) Q E s :=
 Calls.Name_function_global I.ok.kind hg (Calls.loadGlobal_global (by rw[I.ok.glob];exact I.mod.glob.keeps I.bk) hm h) hd
theorem uG {E:gH}{pins:gO}{s:gM}{σ:St}{H:Hp}{x:Str}{u:gL}{pos:Pos}{Q:gH}(I:Inv X pins σ H s)(hg:Gl X x)(hm:X.mg x=U5)(hv:bootBuiltins x=My u)(h:Q u s)
  (hn:x≠"__name__":=by decide) (hd:(x==("__debug__":Str))=U7:=by decide):wpAny (model X.prog X.w) X.A (eval (.Name x pos) X.env) Q E s:=by
 obtain⟨mb,h1,h2⟩:=I.mod.blt;exact Calls.Name_function_global I.ok.kind hg (Calls.loadGlobal_builtin (by rw[I.ok.glob];exact I.mod.glob.keeps I.bk) hm (by rw[I.ok.blt];exact h1.keeps I.bk) ((h2 x hn).trans hv) h) hd
theorem EI {x:Str}{v:V}{u:gL}{pos:Pos}(hg:Gl X x)(hm:X.mg x=My u)(r:RelV v u)(hd:(x==("__debug__":Str))=U7:=by decide):PE X (.Name x pos) (tC v) :=
 λ _ _ _ H _ I h=>sY I hg hm ⟨v,H,I,r,h⟩ hd
theorem EJ {x:Str}{v:V}{u:gL}{pos:Pos}(hg:Gl X x)(hm:X.mg x=U5)(hv:bootBuiltins x=My u)(r:RelV v u)(hn:x≠"__name__":=by decide)(hd:(x==("__debug__":Str))=U7:=by decide):PE X (.Name x pos) (tC v) :=
 λ _ _ _ H _ I h=>uG I hg hm hv ⟨v,H,I,r,h⟩ hn hd
variable {a b:Expr}{ta tb:TE}{pos:Pos}
def PC (X:Cx)(op:CmpOp)(a b:Expr)(t:TE):Prop :=
 ∀ (pins:gO) (s:gM) (σ:St) (H:Hp) (Q:VK),Inv X pins σ H s->t σ H Q ->
  wpAny (model X.prog X.w) X.A (eval a X.env) (λ v s₁=>wpAny (model X.prog X.w) X.A (eval b X.env) (λ u s₂=>wpAny (model X.prog X.w) X.A (compareOp op v u) (EP X pins σ Q) X.xe s₂) X.xe s₁) X.xe s
def tB (t:TE):TT:=λ σ H Q=>t σ H λ x H1=>∃ c,x=.bl c/\Q c H1
theorem NP {op:CmpOp}{t:TE}(h:PC X op a b t)(h1:behindInMarks op b=U7):PT X (.Compare a [op] [b] pos) (tB t):=by intro pins s σ H Q I hw;refine wpAny_isTrue_Compare1 (thn (h pins s σ H _ I hw) λ v s1 h1=>thn h1 λ u s2 h2=>thn h2 λ c s3 ⟨x,H1,I1,r1,q1⟩=>?_) h1;obtain⟨d,rfl,q⟩:=q1;cases r1;exact bT ⟨H1,I1,q⟩
theorem NQ {e:Expr}{t:TE}(h:PE X e t)(he:∀ whole,isTrue e X.env whole=(do let v<-whole;standAt e.pos;holding [v] (truthy v)):=by intro _;rfl):PT X e (tB t):=by intro pins s σ H Q I hw;refine isTrue_plain (thn (h pins s σ H _ I hw) λ v s1 ⟨x,H1,I1,r1,q1⟩=>?_) (he _);obtain⟨d,rfl,q⟩:=q1;cases r1;exact bT ⟨H1,I1,q⟩
variable {tA tB':TT}{rest:List Expr}
def SU (t u:TT):TT:=λ σ H Q=>t σ H λ c H1=>if c=U6 then u σ H1 Q else Q U7 H1
def tOr (t u:TT):TT:=λ σ H Q=>t σ H λ c H1=>if c=U6 then Q U6 H1 else u σ H1 Q
def SV (t:TT):TT:=λ σ H Q=>t σ H λ c H1=>Q (!c) H1
theorem Ks (ha:PT X a tA):PW X (.BoolOp .And [a] pos) tA:=by
 intro wh pins s σ H Q I h;refine isTrue_and (thn (ha pins s σ H Q I h) λ c s1 e=>?_);cases c with
 | true=>exact isTrue_and_nil e
 | false=>exact e
theorem G8 (ha:PT X a tA):PW X (.BoolOp .Or [a] pos) tA:=by
 intro wh pins s σ H Q I h;refine isTrue_or (thn (ha pins s σ H Q I h) λ c s1 e=>?_);cases c with
 | false=>exact isTrue_or_nil e
 | true=>exact e
theorem NR (ha:PT X a tA)(hb:PW X (.BoolOp .And (b::rest) pos) tB'):PW X (.BoolOp .And (a::b::rest) pos) (SU tA tB'):=by
 intro wh pins s σ H Q I h;refine isTrue_and (thn (ha pins s σ H _ I h) λ c s1 ⟨H1,I1,q1⟩=>?_);cases c with
 | true=>exact hb wh pins s1 σ H1 Q I1 q1
 | false=>exact⟨H1,I1,q1⟩
theorem MO (ha:PT X a tA)(hb:PW X (.BoolOp .Or (b::rest) pos) tB'):PW X (.BoolOp .Or (a::b::rest) pos) (tOr tA tB'):=by
 intro wh pins s σ H Q I h;refine isTrue_or (thn (ha pins s σ H _ I h) λ c s1 ⟨H1,I1,q1⟩=>?_);cases c with
 | true=>exact⟨H1,I1,q1⟩
 | false=>exact hb wh pins s1 σ H1 Q I1 q1
theorem G9 (ha:PT X a tA):PT X (.UnaryOp .Not a pos) (SV tA):=by intro pins s σ H Q I h;exact isTrue_not (ha pins s σ H (λ c H1=>Q (!c) H1) I h)
def QB (ta tb:TE):TE:=λ σ H Q=>ta σ H λ x H1=>∃ c,x=.bl c/\if c=U6 then tb σ H1 Q else Q (.bl U7) H1
def QC (ta:TE):TE:=λ σ H Q=>ta σ H λ x H1=>∃ c,x=.bl c/\Q (.bl (!c)) H1
theorem NS {op}{t:TE}(h:PE X a t):PE X (.BoolOp op [a] pos) t:=λ pins s σ H Q I hw=>BoolOp_one (h pins s σ H Q I hw)
theorem NT (ha:PE X a ta)(hb:PE X (.BoolOp .And (b::rest) pos) tb):PE X (.BoolOp .And (a::b::rest) pos) (QB ta tb):=by
 intro pins s σ H Q I h;refine BoolOp_and (thn (ha pins s σ H _ I h) λ v s1 ⟨x,H1,I1,r1,q1⟩=>?_);obtain⟨c,rfl,q1⟩:=q1;cases r1;refine bT ?_;cases c with
 | true=>exact hb pins s1 σ H1 Q I1 q1
 | false=>exact⟨.bl U7,H1,I1,rfl,q1⟩
theorem NU (ha:PE X a ta):PE X (.UnaryOp .Not a pos) (QC ta):=by intro pins s σ H Q I h;refine UnaryOp_ (thn (ha pins s σ H _ I h) λ v s1 ⟨x,H1,I1,r1,q1⟩=>?_);obtain⟨c,rfl,q1⟩:=q1;cases r1;exact not_of (bT ⟨.bl (!c),H1,I1,rfl,q1⟩)
def tIf (t:TT)(ta tb:TE):TE:=λ σ H Q=>t σ H λ c H1=>if c=U6 then ta σ H1 Q else tb σ H1 Q
theorem BL {c:Expr}(hc:PT X c tA)(ha:PE X a ta)(hb:PE X b tb):PE X (.IfExp c a b pos) (tIf tA ta tb):=by
 intro pins s σ H Q I h;refine wpAny_IfExp (thn (hc pins s σ H _ I h) λ d s1 ⟨H1,I1,q1⟩=>?_);cases d with
 | true=>exact ha pins s1 σ H1 Q I1 q1
 | false=>exact hb pins s1 σ H1 Q I1 q1
end
def SqL (K:gK)(H:Hp)(a:Addr)(xs:List V):Prop :=
 Rd H a (.lst xs) \/
  ∃ (o:Obj) (its:Array gL) (n:Nat),K.lookup a=My o/\o.cls=.type "list"/\o.dict=U5/\o.data=.seq its n/\its.size<=sizeLine/\Vals xs its.toList
def SqT (K:gK)(H:Hp)(a:Addr)(xs:List V):Prop :=
 Rd H a (.tup xs) \/
  ∃ (o:Obj) (its:Array gL) (n:Nat),K.lookup a=My o/\(o.cls=.type "tuple"/\o.dict=U5)/\o.data=.seq its n/\its.size<=sizeLine/\Vals xs its.toList
def SW:gL->gJ V
 | .none=>My .non
 | .bool b=>My (.bl b)
 | .int i _=>My (.int i)
 | .str x _=>My (.str x)
 | .bytes b _=>My (.byt b)
 | .float b _=>My (.flt b)
 | .ref a=>My (.ref a)
 | .type n=>My (.ty n)
 | _=>U5
theorem RelV.abs {x:V}{u:gL}(r:RelV x u):SW u=My x:=by
 cases x with
 | non=>cases r;rfl
 | bl _=>cases r;rfl
 | int _=>obtain⟨t,rfl⟩:=r;rfl
 | str _=>obtain⟨t,rfl⟩:=r;rfl
 | byt _=>obtain⟨t,rfl⟩:=r;rfl
 | flt _=>obtain⟨t,rfl⟩:=r;rfl
 | ref _=>cases r;rfl
 | ty _=>cases r;rfl
theorem RelV.inj {x y:V}{u:gL}(r:RelV x u)(q:RelV y u):x=y:=ao (r.abs.symm.trans q.abs)
theorem Vals.inj:∀ {xs ys:List V} {us:List gL},Vals xs us->Vals ys us->xs=ys
 := by
  intro xs ys us h;induction h generalizing ys with
  | nil=>intro h';cases h';rfl
  | cons r t ih=>intro h';cases h' with | cons r' t'=>rw[r.inj r',ih t']
section
variable {X:Cx}{pins:gO}{σ:St}{H:Hp}{s:gM}{a:Addr}{xs ys:List V}
theorem SqL.of {K:gK}(h:H a=My (.lst xs)):SqL K H a xs:=.inl (.inl h)
theorem SqT.of {K:gK}(h:H a=My (.tup xs)):SqT K H a xs:=.inl (.inl h)
theorem Inv.list (I:Inv X pins σ H s)(h:SqL X.K H a xs):∃ its:List gL,Vals xs its/\PlainL s.heap a its.toArray/\xs.length<=sizeLine:=by
 rcases h with h | ⟨o,its,n,hk,hc,hd,hs,hz,r⟩
 ·obtain⟨z,its,n,r,e⟩:=h.ok I.hok;exact⟨its,r,⟨_,n,e,rfl,rfl,rfl⟩,z⟩
 ·refine⟨its.toList,r,⟨o,n,I.kIn a o hk,hc,hd,by simpa using hs⟩,?_⟩;have e:=r.length;simp only[bA]at e;lia
theorem Inv.tuple (I:Inv X pins σ H s)(h:SqT X.K H a xs):∃ its:List gL,Vals xs its/\IsTup s.heap a its.toArray/\xs.length<=sizeLine:=by
 rcases h with h | ⟨o,its,n,hk,hc,hs,hz,r⟩
 ·obtain⟨z,its,r,p⟩:=h.ok I.hok;exact⟨its,r,p,z.1⟩
 ·refine⟨its.toList,r,⟨o,I.kIn a o hk,hc.1,n,by simpa using hs⟩,?_⟩;have e:=r.length;simp only[bA]at e;lia
theorem Inv.BM (I:Inv X pins σ H s)(h:SqL X.K H a xs)(h':SqL X.K H a ys):xs=ys:=by
 obtain⟨its,r,⟨o,n,e,_,_,d⟩,_⟩:=I.list h;obtain⟨its',r',⟨o',n',e',_,_,d'⟩,_⟩:=I.list h';rw[e]at e';cases e';rw[d]at d';injection d' with d1 _;have:its=its':=by simpa using cN Array.toList d1
 subst this;exact r.inj r'
theorem Inv.uH (I:Inv X pins σ H s)(h:SqT X.K H a xs)(h':SqT X.K H a ys):xs=ys:=by
 obtain⟨its,r,⟨o,e,_,n,d⟩,_⟩:=I.tuple h;obtain⟨its',r',⟨o',e',_,n',d'⟩,_⟩:=I.tuple h';rw[e]at e';cases e';rw[d]at d';injection d' with d1 _;have:its=its':=by simpa using cN Array.toList d1
 subst this;exact r.inj r'
end
abbrev Cx.yL (X:Cx)(E:gH):Cx:={X with xe:=E}
abbrev Cx.nox (X:Cx):Cx:=X.yL λ _ _=>False
theorem Cx.Ok.yL {X:Cx}(ok:X.Ok)(E:gH):(X.yL E).Ok :=
 ⟨ok.mod,ok.kind,ok.glob,ok.blt,ok.above,ok.inj,ok.has,ok.cab,ok.hd,ok.frames,ok.stk,ok.exf,ok.bs,ok.bsz,ok.Dj,ok.G6,ok.uF,ok.frf⟩
theorem Cx.Ok.qz {X:Cx}{E:gH}(ok:(X.yL E).Ok):X.Ok :=
 ⟨ok.mod,ok.kind,ok.glob,ok.blt,ok.above,ok.inj,ok.has,ok.cab,ok.hd,ok.frames,ok.stk,ok.exf,ok.bs,ok.bsz,ok.Dj,ok.G6,ok.uF,ok.frf⟩
section
variable {X:Cx}{pins:gO}{σ:St}{H:Hp}{s:gM}{E:gH}
theorem Inv.yL (I:Inv X pins σ H s)(E:gH):Inv (X.yL E) pins σ H s:=⟨I.ok.yL E,I.os,I.bare,I.base,I.loc,I.cell,I.free,I.mK,I.pin,I.hok,I.len⟩
theorem Inv.qz (I:Inv (X.yL E) pins σ H s):Inv X pins σ H s:=⟨I.ok.qz,I.os,I.bare,I.base,I.loc,I.cell,I.free,I.mK,I.pin,I.hok,I.len⟩
theorem SP.qz {D:Ends}{f:Flow}{s':gM}(h:SP (X.yL E) pins D f s'):SP X pins D f s':=by
 cases f with
 | next=>obtain⟨σ',H',I,q⟩:=h;exact⟨σ',H',I.qz,q⟩
 | brk=>obtain⟨σ',H',I,q⟩:=h;exact⟨σ',H',I.qz,q⟩
 | cont=>obtain⟨σ',H',I,q⟩:=h;exact⟨σ',H',I.qz,q⟩
 | ret u=>obtain⟨v,σ',H',I,r,q⟩:=h;exact⟨v,σ',H',I.qz,r,q⟩
theorem PSs.nox {st:List Stmt}{t:TS}(h:PSs X.nox st t):PSs X st t:=λ pins s σ H D I hw =>dh (h pins s σ H D (I.yL _) hw) (λ _ _ q=>q.qz) λ _ _ z=>False.elim z
end
section
variable {X:Cx}{st:Stmt}{rest:List Stmt}{t u:TS}{e:Expr}{te:TE}{pos:Pos}
def G_:TS:=λ D σ H=>D.nx σ H
def jx (t u:TS):TS:=λ D σ H=>t {D with nx:=u D} σ H
theorem o_:PSs X [] G_:=λ _ _ σ H _ I h=>fJ ⟨σ,H,I,h⟩
theorem g9 (h1:PS X st t)(h2:PSs X rest u):PSs X (st::rest) (jx t u):=by
 intro pins s σ H D I h;refine wpAny_execs_cons (thn (h1 pins s σ H {D with nx:=u D} I h) λ f s1 q=>?_);cases f with
 | next =>obtain⟨σ',H',I',q⟩:=q;exact h2 pins s1 σ' H' D I' q
 | ret v=>exact q
 | brk=>exact q
 | cont=>exact q
theorem ji (h1:PS X st t):PSs X [st] t:=by
 intro pins s σ H D I h;refine wpAny_execs_cons (thn (h1 pins s σ H D I h) λ f s1 q=>?_);cases f with
 | next=>exact fJ q
 | ret v=>exact q
 | brk=>exact q
 | cont=>exact q
theorem Inv.quiet {pins:gO}{σ:St}{H:Hp}{s:gM}(I:Inv X pins σ H s):interactive X.env=U7:=by simp[interactive,I.ok.kind]
def BN (te:TE):TS:=λ D σ H=>te σ H λ _ H1=>D.nx σ H1
theorem sZ (he:PE X e te)(hs:swapsWith e U5 pos.line X.env=pure U7:=by rfl):PS X (.Expr e pos) (BN te):=by intro pins s σ H D I h;exact wpAny_Expr_any (thn (he pins s σ H _ I h) λ v s1 ⟨x,H1,I1,r1,q1⟩=>⟨σ,H1,I1,q1⟩) I.quiet hs
def BO (te:TE):TS:=λ D σ H=>te σ H D.rt
theorem lW (he:PE X e te):PS X (.Return (My e) pos) (BO te):=by intro pins s σ H D I h;exact wpAny_Return_some (thn (he pins s σ H _ I h) λ v s1 ⟨x,H1,I1,r1,q1⟩=>⟨x,σ,H1,I1,r1,q1⟩)
def NV (c:TT)(t u:TS):TS:=λ D σ H=>c σ H λ b H1=>if b=U6 then t D σ H1 else u D σ H1
theorem wR {c:Expr}{a b:List Stmt}{tc:TT}(hc:PT X c tc)(ha:PSs X a t)(hb:PSs X b u):PS X (.If c a b pos) (NV tc t u):=by
 intro pins s σ H D I h;refine wpAny_If (thn (hc pins s σ H _ I h) λ d s1 ⟨H1,I1,q1⟩=>?_);cases d with
 | true=>exact ha pins s1 σ H1 D I1 q1
 | false=>exact hb pins s1 σ H1 D I1 q1
end
abbrev TG:=V->St->Hp->(St->Hp->Prop)->Prop
abbrev TGs:=List V->St->Hp->(St->Hp->Prop)->Prop
def PG (X:Cx)(target:Expr)(t:TG):Prop :=
 ∀ (pins:gO) (s:gM) (σ:St) (H:Hp) (v:V) (u:gL) (Q:St->Hp->Prop),Inv X pins σ H s->RelV v u->t v σ H Q ->
  wpAny (model X.prog X.w) X.A (assign target X.env u) (λ _ s'=>∃ σ' H',Inv X pins σ' H' s'/\Q σ' H') X.xe s
def PGs (X:Cx)(ts:List Expr)(t:TGs):Prop :=
 ∀ (pins:gO) (s:gM) (σ:St) (H:Hp) (vs:List V) (us:List gL) (Q:St->Hp->Prop),Inv X pins σ H s->Vals vs us->t vs σ H Q ->
  wpAny (model X.prog X.w) X.A (assignInOrder ((assignEach ts X.env).map (·.2)) us) (λ _ s'=>∃ σ' H',Inv X pins σ' H' s'/\Q σ' H') X.xe s
abbrev NW:=V->V->V->Hp->(Hp->Prop)->Prop
def QD (X:Cx)(t:NW):Prop :=
 ∀ (pins:gO) (s:gM) (σ:St) (H:Hp) (o i v:V) (ov iv u:gL) (Q:Hp->Prop),Inv X pins σ H s->RelV o ov->RelV i iv->RelV v u->t o i v H Q ->
  wpAny (model X.prog X.w) X.A (setItem ov iv u) (λ _ s'=>∃ H',Inv X pins σ H' s'/\Q H') X.xe s
section
variable {X:Cx}{pos:Pos}
def iW (i:Nat):TG:=λ v σ H Q=>Q (σ.set i (My v)) H
theorem Kt {i:Nat}{x:Str}(hN:X.N.Nodup)(hi:X.N[i]?=My x)(hx:Loc X.env.scope x)(hf:X.fn x=U6\/X.env.scope.names.lookup x=My .local:=by trivial):PG X (.Name x pos) (iW i):=by intro pins s σ H v u Q I r h;exact wpAny_assign_Name (oM I hN hi hx r (λ s' I'=>⟨_,H,I',h⟩) hf)
def Hb:TGs:=λ vs σ H Q=>vs=[]/\Q σ H
def vg (t:TG)(u:TGs):TGs:=λ vs σ H Q=>∃ v r,vs=v::r/\t v σ H λ σ' H'=>u r σ' H' Q
theorem lI:PGs X [] Hb:=by intro pins s σ H vs us Q I r h;obtain⟨e,h⟩:=h;subst e;cases r;exact assignInOrder_nil ⟨σ,H,I,h⟩
theorem iZ {e:Expr}{es:List Expr}{t:TG}{u:TGs}(h1:PG X e t)(h2:PGs X es u)
  (hs:(assignEach (e::es) X.env).map (·.2)=assign e X.env::(assignEach es X.env).map (·.2):=by rfl):PGs X (e::es) (vg t u):=by
 intro pins s σ H vs us Q I r h;obtain⟨v,vr,e1,h⟩:=h;subst e1;cases r with
 | cons r rr =>rw[hs];refine assignInOrder_cons (thn (h1 pins s σ H _ _ _ I r h) λ _ s1 ⟨σ1,H1,I1,q1⟩=>?_);exact h2 pins s1 σ1 H1 _ _ Q I1 rr q1
def Hc (K:gK)(n:Nat)(t:TGs):TG:=λ v σ H Q=>∃ a xs,v=.ref a/\SqT K H a xs/\xs.length=n/\t xs σ H Q
theorem mW {es:List Expr}{k:Nat}{t:TGs}{n:Nat}(hc:X.calm=U6)(h:PGs X es t)
  (hn:(assignEach es X.env).length=n:=by rfl) (hst:(assignEach es X.env).findIdx? (·.1)=U5:=by rfl):PG X (.Tuple es k pos) (Hc X.K n t):=by
 intro pins s σ H v u Q I r hw;obtain⟨a,xs,e1,hq,hl,hw⟩:=hw;subst e1;cases r;obtain⟨its,rv,ht,hz⟩:=I.tuple hq;refine assign_Tuple_tuple (I.ok.hd hc) ht (by simp[hn,<-hl,rv.length]) hst λ h' hx=>?_;have I1:Inv X pins σ H {s with heap:=h'}:=I.kept (t':=s.toks) λ b o e=>hx b o (aM (av e)) e;exact h pins _ σ H xs _ Q I1 (by simpa using rv) hw
def SX (to ti:TE)(t:NW):TG:=λ v σ H Q=>to σ H λ o H1=>ti σ H1 λ i H2=>t o i v H2 λ H3=>Q σ H3
theorem NX {o i:Expr}{to ti:TE}{t:NW}(ho:PE X o to)(hi:PE X i ti)(hs:QD X t)
  (ha:∀ v,assign (.Subscript o i pos) X.env v=(do
   let ov<-holding [v] (eval o X.env);let iv<-holding [v,ov] (eval i X.env)
   standAt pos
   holding [v,ov,iv] (setItem ov iv v)
   release [v,ov,iv] []):=by intro _;rfl):PG X (.Subscript o i pos) (SX to ti t):=by
 intro pins s σ H v u Q I r h;rw[ha];refine ae (bQ (thn (ho pins s σ H _ I h) λ ov s1 ⟨x,H1,I1,r1,q1⟩=>?_));refine ae (bQ (thn (hi pins s1 σ H1 _ I1 q1) λ iv s2 ⟨y,H2,I2,r2,q2⟩=>?_));refine ae (f6 (ae (bQ (thn (hs pins s2 σ H2 x y v ov iv u _ I2 r1 r2 r q2) λ _ s3 ⟨H3,I3,q3⟩=>?_))));exact wpAny_release ⟨σ,H3,I3,q3⟩
def lU (te:TE)(g:TG):TS:=λ D σ H=>te σ H λ x H1=>g x σ H1 D.nx
theorem Hd {tg e:Expr}{te:TE}{g:TG}(he:PE X e te)(hg:PG X tg g)(hs:swapsWithSole [tg] e pos.line X.env=pure U7:=by rfl)(hw:swappedStores [tg] e X.env=pure U5:=by rfl)
  (h1:(assignEach [tg] X.env).map (·.2)=[assign tg X.env]:=by rfl):PS X (.Assign [tg] e pos) (lU te g):=by
 intro pins s σ H D I h;refine wpAny_Assign_stores (thn (he pins s σ H _ I h) λ v s1 ⟨x,H1,I1,r1,q1⟩=>?_) hs hw;rw[h1];exact thn (hg pins s1 σ H1 x v _ I1 r1 q1) λ _ s2 q=>q
theorem iY {i:Nat}{x:Str}{e:Expr}{te:TE}{pos':Pos}(hN:X.N.Nodup)(hi:X.N[i]?=My x)(hx:Loc X.env.scope x)(he:PE X e te)(hs:swapsWith e (My (.Name x pos')) pos.line X.env=pure U7:=by rfl)(hf:X.fn x=U6\/X.env.scope.names.lookup x=My .local:=by trivial) :
  PS X (.Assign [.Name x pos'] e pos) (lU te (iW i)):=by
 intro pins s σ H D I h;refine wpAny_Assign_Name (thn (he pins s σ H _ I h) λ v s1 ⟨y,H1,I1,r1,q1⟩=>?_) hs;exact oM I1 hN hi hx r1 (λ s2 I2=>⟨_,H1,I2,q1⟩) hf
def SY (i j:Nat)(ta:TA):TS:=λ D σ H=>ta σ H λ vs H1=>∃ v w,vs=[v,w]/\D.nx ((σ.set i (My v)).set j (My w)) H1
theorem NY {i j:Nat}{x y:Str}{a b:Expr}{ta:TA}{px py pt:Pos}{kt k2 pt2}(hc:X.calm=U6)(hN:X.N.Nodup)(hi:X.N[i]?=My x)(hj:X.N[j]?=My y)(hij:i≠j)
  (hx:X.env.scope.names.lookup x=My .local) (hy:X.env.scope.names.lookup y=My .local) (ha:PA X [a,b] ta)
  (hw:swappedStores [.Tuple [.Name x px,.Name y py] kt pt] (.Tuple [a,b] k2 pt2) X.env=pure (My [x,y]))
  (hs:swapsWithSole [.Tuple [.Name x px,.Name y py] kt pt] (.Tuple [a,b] k2 pt2) pos.line X.env=pure U7:=by rfl) :
  PS X (.Assign [.Tuple [.Name x px,.Name y py] kt pt] (.Tuple [a,b] k2 pt2) pos) (SY i j ta):=by
 intro pins s σ H D I h;rw[exec_Assign_arm];refine ae (f6 ?_);rw[hs];refine ae (af ?_);rw[au (by decide)];refine ae (Tuple_ (thn (ha _ pins s σ H _ I h) λ us s1 ⟨vs,H1,I1,r1,q1⟩=>?_));obtain⟨v,w,e1,q1⟩:=q1;subst e1;obtain⟨u1,u2,rfl,rv,rw'⟩:∃ u1 u2,us=[u1,u2]/\RelV v u1/\RelV w u2:=by
  cases r1 with
  | cons p q =>
   cases q with
   | cons p' q' =>cases q';exact⟨_,_,rfl,p,p'⟩
 refine bw ?_ (by show 2<=sizeLine;decide);have I2:Inv X pins σ H1 {s1 with heap:=s1.heap.push {cls:=.type "tuple",data:=.seq [u1,u2].toArray}}:=I1.kept (t':=s1.toks) λ b o e=>ag _ e;rw[hw];refine ae (af ?_);show wpAny (model X.prog X.w) X.A (do rule "assign.swapped-stores";let items<-unpackItems (.ref s1.heap.objs.size) 2 U5;assignInOrder [λ v=>bindName X.env y v,λ v=>bindName X.env x v] items.reverse;pure Flow.next) _ _ _;refine ae (f_ (ae (unpackItems_tuple (items:=#[u1,u2]) (I.ok.hd hc) (IsTup.new s1.heap _) λ h' hx'=>?_)));have I3:=I2.kept (h':=h') (t':=s1.toks) λ b o e=>hx' b o (aM (av e)) e;show wpAny _ _ (assignInOrder [λ v=>bindName X.env y v,λ v=>bindName X.env x v] [u2,u1]>>=λ _=>pure Flow.next) _ _ _;refine ae (assignInOrder_cons (wpAny_bindName (oM I3 hN hj (.inl hy) rw' (λ s2 I4=>?_) (.inr hy))));refine assignInOrder_cons (wpAny_bindName (oM I4 hN hi (.inl hx) rv (λ s3 I5=>assignInOrder_nil (af ?_)) (.inr hx)));rw[List.set_comm _ _ (aZ hij)]at I5;exact⟨_,H1,I5,q1⟩
end
section
variable {X:Cx}{pos:Pos}
def Dl (c:TT)(tb:TS):TS:=λ D σ H=>∃ W:Nat->St->Hp->Prop,(∃ m,W m σ H)/\∀ m σ H,W m σ H ->
 c σ H λ b H1=>if b=U6 then ∃ N:St->Hp->Prop,(∀ σ' H',N σ' H'->∃ m',m'<m/\W m' σ' H')/\tb {D with nx:=N,ct:=N,bk:=D.nx} σ H1 else D.nx σ H1
theorem wU {c:Expr}{body:List Stmt}{tc:TT}{tb:TS}(hp:PassesOwn (model X.prog X.w) X.A X.env X.xe)(hc:PT X c tc)(hb:PSs X body tb):PS X (.While c body [] pos) (Dl tc tb):=by
 intro pins s σ H D I h;obtain⟨W,⟨m0,w0⟩,turn⟩:=h;refine wpAny_While (codeAny_whileLoop (λ n s'=>∃ σ' H',Inv X pins σ' H' s'/\W n σ' H') ?_ m0 ⟨σ,H,I,w0⟩);rintro n s1 ⟨σ1,H1,I1,w1⟩;refine dD hp (thn (hc pins s1 σ1 H1 _ I1 (turn n σ1 H1 w1)) λ b s2 ⟨H2,I2,q2⟩=>?_);cases b with
 | true =>
  obtain⟨N,hN,q2⟩:=q2;rw[ai rfl];refine dD hp (thn (hb pins s2 σ1 H2 _ I2 q2) λ f s3 q3=>?_);cases f with
  | next =>obtain⟨σ3,H3,I3,n3⟩:=q3;obtain⟨m',hm,w3⟩:=hN σ3 H3 n3;exact⟨m',hm,σ3,H3,I3,w3⟩
  | cont =>obtain⟨σ3,H3,I3,n3⟩:=q3;obtain⟨m',hm,w3⟩:=hN σ3 H3 n3;exact⟨m',hm,σ3,H3,I3,w3⟩
  | brk=>exact q3
  | ret v=>exact q3
 | false =>rw[au ax];exact fJ ⟨σ1,H2,I2,q2⟩
end
structure It where
 go:Nat->Hp->Prop
 yld:Nat->Hp->V->Hp->Prop
 stop:Nat->Hp->Prop
def vO (X:Cx)(pins:gO)(H:Hp)(b:Addr):Prop :=
 H b=U5/\b≠X.env.locals/\b∉X.fs/\(b∈X.ex\/X.s₀.heap.objs.size<=b)/\(∀ x c,X.env.cells.lookup x=My c->c≠b)/\∀ p∈X.pn++pins,p.1≠b
theorem Inv.Ku {X:Cx}{pins:gO}{σ:St}{H H':Hp}{s:gM}{b:Addr}(I:Inv X pins σ H s)(hb:s.heap.objs.size<=b)(hn:H' b=U5):vO X pins H' b:=by
 refine⟨hn,bU (aG I.lt hb),I.SS hb,.inr (bD I.sz hb),λ x c e z=>?_,λ p hp z=>?_⟩
 ·obtain⟨v,q⟩:=I.cell x c e;exact absurd (aG q.lt (by rw[z];exact hb)) (aV _)
 ·exact absurd (aG (av (I.pin p hp).1) (by rw[z];exact hb)) (aV _)
structure Turn (P:Program)(w:World)(K:gK)(tg:Expr)(J:It)(fp:List Addr)(it:Addr)(tn:Nat->Heap->Prop):Prop where
 mem:it∈fp
 obj:∀ i h,tn i h->∀ b∈fp,∃ o,h.get? b=My o/\∀ v,o.data≠.cell v
 keep:∀ i h h',tn i h->(∀ b∈fp,∀ o,h.get? b=My o->h'.get? b=My o)->tn i h'
 item:∀ (X:Cx),X.prog=P->X.w=w->X.K=K->X.calm=U6->∀ (i:Nat) (pins:gO) (s:gM) (σ:St) (H:Hp) (E:gH),Inv X pins σ H s->(∀ b∈fp,vO X pins H b)->tn i s.heap->J.go i H ->
  wpAny (model P w) X.A (pyNext (.ref it)) (λ r s1=>∃ u,r=My u /\
   wpAny (model P w) X.A (letOwnedTupleGo tg (.ref it) u) (λ _ s2=>∃ x H',Inv X pins σ H' s2/\RelV x u/\J.yld i H x H'/\tn (i+1) s2.heap/\∀ b∈fp,H' b=U5) E s1) E s
 done:∀ (X:Cx),X.prog=P->X.w=w->X.K=K->X.calm=U6->∀ (i:Nat) (pins:gO) (s:gM) (σ:St) (H:Hp) (E:gH),Inv X pins σ H s->(∀ b∈fp,vO X pins H b)->tn i s.heap->J.stop i H ->
  wpAny (model P w) X.A (pyNext (.ref it)) (λ r s1=>r=U5/\Inv X pins σ H s1) E s
 self:∀ (A:Around) (i:Nat) (s:gM) (Q:gH) (E:gH),tn i s.heap->Q (.ref it) s->wpAny (model P w) A (pyIter (.ref it)) Q E s
abbrev TI:=St->Hp->(It->Hp->Prop)->Prop
def PIE (X:Cx)(pins:gO)(σ:St)(tg:Expr)(R:It->Hp->Prop)(itv:gL)(s2:gM):Prop :=
 ∃ (it:Addr) (fp:List Addr) (tn:Nat->Heap->Prop) (J:It) (H':Hp),itv=.ref it/\Inv X pins σ H' s2/\Turn X.prog X.w X.K tg J fp it tn/\tn 0 s2.heap/\(∀ b∈fp,vO X pins H' b)/\R J H'
def PI (X:Cx)(tg iter:Expr)(wi:TI):Prop :=
 ∀ (pins:gO) (s:gM) (σ:St) (H:Hp) (R:It->Hp->Prop),Inv X pins σ H s->wi σ H R ->
  wpAny (model X.prog X.w) X.A (eval iter X.env) (λ v s1=>wpAny (model X.prog X.w) X.A (pyIter v) (PIE X pins σ tg R) X.xe s1) X.xe s
theorem He {M : Model}{A : Around}{E : gL -> gM -> Prop}{s : gM}{tg : Expr}{it : Addr}{u : gL}{o : Obj}{n : String}{vs : Array gL}{Q : Unit -> gM -> Prop}(ho : s.heap.get? it = My o)(hc : o.cls = .type n)(hd : o.data = .fields vs)
    (hn : ["enumerate", "zip", "dict_itemiterator", "dict_reverseitemiterator", "odict_iterator", "itertools.zip_longest", "itertools.pairwise"].contains n = U7) (hQ : Q () s) : wpAny M A (letOwnedTupleGo tg (.ref it) u) Q E s := by
  unfold letOwnedTupleGo;cases tg <;> first
    | exact af hQ
    | (cases u <;> first
        | exact af hQ
        | (refine ae (wpAny_load ho ?_)
           rw[hc, hd];show wpAny M A (if (["enumerate", "zip", "dict_itemiterator", "dict_reverseitemiterator", "odict_iterator", "itertools.zip_longest", "itertools.pairwise"].contains n && vs[0]? == My (rawInt _)) = U6 then _ else _) Q E s;rw[au (by intro h; rw[hn, gy]at h; cases h)];exact af hQ))
def Itl (K:gK)(a:Addr):It :=
 ⟨λ i H=>∃ xs x,SqL K H a xs/\xs[i]?=My x,λ i H x H'=>H'=H/\∀ xs,SqL K H a xs->xs[i]?=My x,λ i H=>∃ xs,SqL K H a xs/\xs.length<=i⟩
def Itt (K:gK)(a:Addr):It :=
 ⟨λ i H=>∃ xs x,SqT K H a xs/\xs[i]?=My x,λ i H x H'=>H'=H/\∀ xs,SqT K H a xs->xs[i]?=My x,λ i H=>∃ xs,SqT K H a xs/\xs.length<=i⟩
def Itr (lo:Int)(n:Nat):It:=⟨λ i _=>i<n,λ i H x H'=>H'=H/\x=.int (lo+i),λ i _=>n<=i⟩
theorem FX {P:Program}{w:World}{K:gK}{tg:Expr}(a it:Addr):Turn P w K tg (Itl K a) [it] it (λ i h=>h.IsListIter it a i) where
 mem:=by simp
 obj:=λ i h st b hb=>by
  have e:b=it:=by simpa using hb
  subst e;obtain⟨o,e,c,d⟩:=st;exact⟨o,e,λ v z=>by rw[d]at z;cases z⟩
 keep:=λ i h h' st k=>st.at λ o e=>k it (by simp) o e
 item:=by intro X hP hw hK hc i pins s σ H E I hf st hg;subst hP hw hK;obtain⟨xs,x,hq,hx⟩:=hg;obtain⟨its,rv,p,hz⟩:=I.list hq;obtain⟨u,hu,ru⟩:=rv.get hx;obtain⟨f0,f1,f2,f3,f4,f5⟩:=hf it (by simp);refine wpAny_pyNext_list_item st p.isList (x:=u) (by simpa using hu) λ h' st' sb=>?_;have I1:Inv X pins σ H {s with heap:=h'}:=I.turned (t':=s.toks) (λ b o hb e=>(sb.2 b hb).trans e) f0 f1 f3 f4 f5;obtain⟨o,e,c,d⟩:=id st';exact⟨u,rfl,He (s:={s with heap:=h'}) e c d (by decide) ⟨x,H,I1,ru,⟨rfl,λ ys hy=>by rw[I.BM hy hq];exact hx⟩,st',λ b hb=>(hf b hb).1⟩⟩
 done:=by intro X hP hw hK hc i pins s σ H E I hf st hg;subst hP hw hK;obtain⟨xs,hq,hx⟩:=hg;obtain⟨its,rv,p,hz⟩:=I.list hq;obtain⟨f0,f1,f2,f3,f4,f5⟩:=hf it (by simp);have hl:=rv.length;exact wpAny_pyNext_list_end (I.ok.hd hc) st p.isList (by simp;lia) λ h' eb=>⟨rfl,I.turned (t':=s.toks) (λ b o hb e=>eb b o hb e) f0 f1 f3 f4 f5⟩
 self:=λ _ _ _ _ _ st h=>wpAny_pyIter_listiter st h
theorem Dm {P:Program}{w:World}{K:gK}{tg:Expr}(a it:Addr):Turn P w K tg (Itt K a) [it] it (λ i h=>h.IsTupleIter it a i) where
 mem:=by simp
 obj:=λ i h st b hb=>by
  have e:b=it:=by simpa using hb
  subst e;obtain⟨o,e,c,d⟩:=st;exact⟨o,e,λ v z=>by rw[d]at z;cases z⟩
 keep:=λ i h h' st k=>st.at λ o e=>k it (by simp) o e
 item:=by intro X hP hw hK hc i pins s σ H E I hf st hg;subst hP hw hK;obtain⟨xs,x,hq,hx⟩:=hg;obtain⟨its,rv,p,hz⟩:=I.tuple hq;obtain⟨u,hu,ru⟩:=rv.get hx;obtain⟨f0,f1,f2,f3,f4,f5⟩:=hf it (by simp);refine wpAny_pyNext_tuple_item st (show s.heap.IsTuple a its.toArray from p) (x:=u) (by simpa using hu) λ h' st' sb=>?_;have I1:Inv X pins σ H {s with heap:=h'}:=I.turned (t':=s.toks) (λ b o hb e=>(sb.2 b hb).trans e) f0 f1 f3 f4 f5;obtain⟨o,e,c,d⟩:=id st';exact⟨u,rfl,He (s:={s with heap:=h'}) e c d (by decide) ⟨x,H,I1,ru,⟨rfl,λ ys hy=>by rw[I.uH hy hq];exact hx⟩,st',λ b hb=>(hf b hb).1⟩⟩
 done:=by intro X hP hw hK hc i pins s σ H E I hf st hg;subst hP hw hK;obtain⟨xs,hq,hx⟩:=hg;obtain⟨its,rv,p,hz⟩:=I.tuple hq;obtain⟨f0,f1,f2,f3,f4,f5⟩:=hf it (by simp);have hl:=rv.length;exact wpAny_pyNext_tuple_end (I.ok.hd hc) st (show s.heap.IsTuple a its.toArray from p) (by simp;lia) λ h' eb=>⟨rfl,I.turned (t':=s.toks) (λ b o hb e=>eb b o hb e) f0 f1 f3 f4 f5⟩
 self:=λ _ _ _ _ _ st h=>wpAny_pyIter_tupleiter st h
theorem Dn {P:Program}{w:World}{K:gK}{tg:Expr}(it:Addr)(lo:Int)(n:Nat):Turn P w K tg (Itr lo n) [it] it (λ i h=>IsRangeIter h it (lo+(i:Nat)*1) ((n:Int)-(i:Nat)) 1) where
 mem:=by simp
 obj:=λ i h st b hb=>by
  have e:b=it:=by simpa using hb
  subst e;exact⟨_,st,λ v z=>by have z':Data.fields _=Data.cell v:=z;cases z'⟩
 keep:=λ i h h' st k=>k it (by simp) _ st
 item:=by intro X hP hw hK hc i pins s σ H E I hf st hg;subst hP hw hK;obtain⟨f0,f1,f2,f3,f4,f5⟩:=hf it (by simp);have W:=Walks.range (prog:=X.prog) (w:=X.w) (I.ok.hd hc) it lo 1 n;refine W.item i s _ _ hg st λ v h' tk hv st' kk=>?_;obtain⟨t,rfl⟩:=hv;have I1:Inv X pins σ H {s with heap:=h',toks:=tk}:=I.turned (λ b o hb e=>kk b o (by simpa using hb) e) f0 f1 f3 f4 f5;refine⟨_,rfl,He (s:={s with heap:=h',toks:=tk}) (n:="range_iterator") st' rfl rfl (by decide) ⟨.int (lo+i),H,I1,⟨t,?_⟩,⟨rfl,rfl⟩,st',λ b hb=>(hf b hb).1⟩⟩;rw[Int.mul_one]
 done:=by intro X hP hw hK hc i pins s σ H E I hf st hg;subst hP hw hK;obtain⟨f0,f1,f2,f3,f4,f5⟩:=hf it (by simp);exact wpAny_pyNext_range_end (I.ok.hd hc) st (by have:n<=i:=hg;lia) λ h' eb=>⟨rfl,I.turned (t':=s.toks) (λ b o hb e=>eb b o hb e) f0 f1 f3 f4 f5⟩
 self:=λ _ _ _ _ _ st h=>wpAny_pyIter_rangeiter st h
section
variable {X:Cx}{tg:Expr}
def Hf (K:gK)(tl:TE):TI:=λ σ H R=>tl σ H λ x H1=>∃ a,x=.ref a/\(∃ xs,SqL K H1 a xs)/\R (Itl K a) H1
def S_ (K:gK)(tl:TE):TI:=λ σ H R=>tl σ H λ x H1=>∃ a,x=.ref a/\(∃ xs,SqT K H1 a xs)/\R (Itt K a) H1
theorem Ak {l:Expr}{tl:TE}(hl:PE X l tl):PI X tg l (Hf X.K tl):=by
 intro pins s σ H R I h;refine thn (hl pins s σ H _ I h) λ v s1 ⟨x,H1,I1,r1,q1⟩=>?_;obtain⟨a,e,⟨xs,hq⟩,q⟩:=q1;subst e;cases r1;obtain⟨its,rv,p,hz⟩:=I1.list hq;refine e_ p.isList ?_;refine⟨s1.heap.objs.size,[s1.heap.objs.size],_,_,H1,rfl,I1.kept (t':=s1.toks) λ b o e=>ag _ e,FX a _,⟨_,aF _ rfl,rfl,rfl⟩,λ b hb=>?_,q⟩;have e:b=s1.heap.objs.size:=by simpa using hb
 subst e;exact I1.Ku (aw _) (I1.hok.fresh (aw _))
theorem Hi {l:Expr}{tl:TE}(hl:PE X l tl):PI X tg l (S_ X.K tl):=by
 intro pins s σ H R I h;refine thn (hl pins s σ H _ I h) λ v s1 ⟨x,H1,I1,r1,q1⟩=>?_;obtain⟨a,e,⟨xs,hq⟩,q⟩:=q1;subst e;cases r1;obtain⟨its,rv,p,hz⟩:=I1.tuple hq;refine fN (show s1.heap.IsTuple a its.toArray from p) ?_;refine⟨s1.heap.objs.size,[s1.heap.objs.size],_,_,H1,rfl,I1.kept (t':=s1.toks) λ b o e=>ag _ e,Dm a _,⟨_,aF _ rfl,rfl,rfl⟩,λ b hb=>?_,q⟩;have e:b=s1.heap.objs.size:=by simpa using hb
 subst e;exact I1.Ku (aw _) (I1.hok.fresh (aw _))
theorem BP {pins:gO}{σ:St}{H:Hp}{s:gM}{R:It->Hp->Prop}{E:gH}{lo hi:Int}{t u v:Tok}{tk:Nat}(I:Inv X pins σ H s)(h1:-(2 ^ 62)<=lo)(h2:lo<2 ^ 62)(h3:-(2 ^ 62)<=hi)(h4:hi<2 ^ 62)
  (q:R (Itr lo (hi-lo).toNat) H):wpAny (model X.prog X.w) X.A (pyIter (.ref s.heap.objs.size)) (PIE X pins σ tg R) E {s with heap:=s.heap.push {cls:=.type "range",data:=.fields #[.int lo t,.int hi u,.int 1 v]},toks:=tk}:=by
 refine wpAny_pyIter_range (IsRange.new ..) (small_one h1 h2 h3 h4) ?_;have I1:Inv X pins σ H {s with heap:=s.heap.push {cls:=.type "range",data:=.fields #[.int lo t,.int hi u,.int 1 v]},toks:=tk}:=I.kept λ b o e=>ag _ e;refine⟨(s.heap.push {cls:=.type "range",data:=.fields #[.int lo t,.int hi u,.int 1 v]}).objs.size,[(s.heap.push {cls:=.type "range",data:=.fields #[.int lo t,.int hi u,.int 1 v]}).objs.size],_,_,H,rfl,
  I1.kept (t':=tk) λ b o e=>ag _ e,Dn _ lo (hi-lo).toNat,?_,λ b hb=>?_,q⟩
 ·have e1:lo+((0:Nat):Int)*1=lo:=by simp
  have e2:(((hi-lo).toNat:Nat):Int)-((0:Nat):Int)=Builtin.Range.rangeSize lo hi 1:=by rw[rangeSize_one];split<;>lia
  show IsRangeIter _ _ (lo+((0:Nat):Int)*1) ((((hi-lo).toNat:Nat):Int)-((0:Nat):Int)) 1;rw[e1,e2];exact aF _ rfl
 ·have e:b=(s.heap.push {cls:=.type "range",data:=.fields #[.int lo t,.int hi u,.int 1 v]}).objs.size:=by simpa using hb
  subst e;exact I1.Ku (aw _) (I1.hok.fresh (aw _))
def BR (ta:TA):TI:=λ σ H R=>ta σ H λ vs H1=>∃ j:Int,vs=[.int j]/\-(2 ^ 62)<=j/\j<2 ^ 62/\R (Itr 0 j.toNat) H1
def MP (ta:TA):TI:=λ σ H R=>ta σ H λ vs H1=>∃ i j:Int,vs=[.int i,.int j]/\(-(2 ^ 62)<=i/\i<2 ^ 62/\-(2 ^ 62)<=j/\j<2 ^ 62)/\R (Itr i (j-i).toNat) H1
theorem nD {a:Expr}{ta:TA}{p pos:Pos}(hg:Gl X "range")(hm:X.mg "range"=U5)(ha:PA X [a] ta)(hs:starEach [a] X.env=[(U7,eval a X.env)]:=by rfl):PI X tg (.Call (.Name "range" p) [a] [] pos) (BR ta):=by
 intro pins s σ H R I h;refine Call_ (uG I hg hm boot_range (cW (thn (ha pos pins s σ H _ I h) λ us s1 ⟨vs,H1,I1,r1,q1⟩=>?_) hs rfl));obtain⟨j,e,q1,q2,q⟩:=q1;subst e;cases r1 with
 | cons r rr =>cases rr;obtain⟨t,rfl⟩:=r;exact call_range_1 (BP I1 (by lia) (by lia) q1 q2 (by simpa using q))
theorem FY {a b:Expr}{ta:TA}{p pos:Pos}(hg:Gl X "range")(hm:X.mg "range"=U5)(ha:PA X [a,b] ta)(hs:starEach [a,b] X.env=[(U7,eval a X.env),(U7,eval b X.env)]:=by rfl)(hs2:starEach [b] X.env=[(U7,eval b X.env)]:=by rfl) :
  PI X tg (.Call (.Name "range" p) [a,b] [] pos) (MP ta):=by
 intro pins s σ H R I h;refine Call_ (uG I hg hm boot_range (cW (thn (ha pos pins s σ H _ I h) λ us s1 ⟨vs,H1,I1,r1,q1⟩=>?_) (by rw[hs,hs2]) (by rw[hs2];rfl)));obtain⟨i,j,e,⟨q1,q2,q3,q4⟩,q⟩:=q1;subst e;cases r1 with
 | cons r rr =>
  cases rr with
  | cons r' rr =>cases rr;obtain⟨t,rfl⟩:=r;obtain⟨t',rfl⟩:=r';exact call_range_2 (BP I1 q1 q2 q3 q4 q)
def Dp (wi:TI)(g:TG)(tb:TS):TS:=λ D σ H=>wi σ H λ J H1=>∃ W:Nat->Nat->St->Hp->Prop,(∃ m,W 0 m σ H1)/\∀ i m σ H,W i m σ H ->
 (J.stop i H/\D.nx σ H)\/(J.go i H/\∃ N:St->Hp->Prop,(∀ σ' H',N σ' H'->∃ m',m'<m/\W (i+1) m' σ' H')/\∀ x H',J.yld i H x H'->g x σ H' λ σ2 H2=>tb {D with nx:=N,ct:=N,bk:=D.nx} σ2 H2)
def uI (fp:List Addr)(h:Heap):gO:=fp.filterMap λ b=>(h.get? b).map λ o=>(b,o)
theorem pf {fp:List Addr}{h:Heap}{b:Addr}{o:Obj}(hb:b∈fp)(e:h.get? b=My o):(b,o)∈uI fp h:=de.mpr ⟨b,hb,by rw[e];rfl⟩
theorem FZ {fp:List Addr}{h:Heap}{p:Addr×Obj}(hp:p∈uI fp h):p.1∈fp/\h.get? p.1=My p.2:=by
 obtain⟨b,hb,e⟩:=de.mp hp;cases q:h.get? b with
 | none=>rw[q]at e;cases e
 | some o =>rw[q]at e;have e':(b,o)=p:=ao e;subst e';exact⟨hb,q⟩
theorem Inv.pinned {pins:gO}{σ:St}{H:Hp}{s:gM}{fp:List Addr}(I:Inv X pins σ H s)(hf:∀ b∈fp,vO X pins H b)(ho:∀ b∈fp,∃ o,s.heap.get? b=My o/\∀ v,o.data≠.cell v):Inv X (pins++uI fp s.heap) σ H s :=
 I.wc λ p hp=>(a_.mp hp).elim (λ z=>I.pin p (aR _ z)) λ z=>by obtain⟨hb,e⟩:=FZ z;obtain⟨f0,f1,f2,_⟩:=hf p.1 hb;obtain⟨o,e',d⟩:=ho p.1 hb;rw[e]at e';cases e';exact⟨e,f0,f1,f2,d⟩
theorem Inv.wV {pins pl:gO}{σ:St}{H:Hp}{s:gM}(I:Inv X (pins++pl) σ H s):Inv X pins σ H s:=I.wc λ p hp=>I.pin p (aR _ (bc _ hp))
theorem qA {iter:Expr}{body:List Stmt}{wi:TI}{g:TG}{tb:TS}{pos:Pos}(hp:PassesOwn (model X.prog X.w) X.A X.env X.xe)(hc:X.calm=U6)(hi:PI X tg iter wi)(hg:PG X tg g)(hb:PSs X body tb)
  (hs:∀ x,foldedSetIterable iter X.env x=pure x:=by intro _;rfl):PS X (.For tg iter body [] pos) (Dp wi g tb):=by
 intro pins s σ H D I h;refine wpAny_For (thn (hi pins s σ H _ I h) λ v s1 h1=>thn h1 λ itv s2 h2=>?_) hs;obtain⟨it,fp,tn,J,H2,e,I2,T,st2,f2,W,⟨m0,w0⟩,turn⟩:=h2;subst e;have stat:∀ {H':Hp},(∀ b∈fp,H' b=U5)->∀ b∈fp,vO X pins H' b:=λ hn b hb=>⟨hn b hb,(f2 b hb).2⟩;refine codeAny_forLoop_any (λ n s'=>∃ i σ' H',Inv X pins σ' H' s'/\tn i s'.heap/\(∀ b∈fp,H' b=U5)/\W i n σ' H') ?_ m0 ⟨0,σ,H2,I2,st2,λ b hb=>(f2 b hb).1,w0⟩;rintro n s3 ⟨i,σ3,H3,I3,st3,fr3,w3⟩;rcases turn i n σ3 H3 w3 with⟨stop,qn⟩ | ⟨go,N,hN,step⟩
 ·refine dD hp (thn (T.done X rfl rfl rfl hc i pins s3 σ3 H3 X.xe I3 (stat fr3) st3 stop) λ r s4 ⟨hr,I4⟩=>?_);subst hr;exact fJ ⟨σ3,H3,I4,qn⟩
 ·refine dD hp (thn (T.item X rfl rfl rfl hc i pins s3 σ3 H3 X.xe I3 (stat fr3) st3 go) λ r s4 ⟨u,hr,h4⟩=>?_)
  subst hr;refine dD hp (thn h4 λ _ s5 ⟨x,H5,I5,r5,y5,st5,fr5⟩=>?_);have I5':=I5.pinned (stat fr5) (T.obj _ _ st5);refine dD hp (thn (hg _ s5 σ3 H5 x u _ I5' r5 (step x H5 y5)) λ _ s6 ⟨σ6,H6,I6,q6⟩=>?_);refine dD hp (thn (hb _ s6 σ6 H6 _ I6 q6) λ f s7 q7=>?_);have again:∀ {σ7:St} {H7:Hp},Inv X (pins++uI fp s5.heap) σ7 H7 s7->N σ7 H7->∃ m,m<n/\∃ i σ' H',Inv X pins σ' H' s7/\tn i s7.heap/\(∀ b∈fp,H' b=U5)/\W i m σ' H':=λ{σ7 H7} I7 n7=>by obtain⟨m',hm,w7⟩:=hN σ7 H7 n7;refine⟨m',hm,i+1,σ7,H7,I7.wV,T.keep _ _ _ st5 λ b hb o e=>(I7.pin (b,o) (aR _ (aR _ (pf hb e)))).1,λ b hb=>?_,w7⟩;obtain⟨o,e,d⟩:=T.obj _ _ st5 b hb;exact(I7.pin (b,o) (aR _ (aR _ (pf hb e)))).2.1
  cases f with
  | next=>obtain⟨σ7,H7,I7,n7⟩:=q7;exact again I7 n7
  | cont=>obtain⟨σ7,H7,I7,n7⟩:=q7;exact again I7 n7
  | brk=>obtain⟨σ7,H7,I7,q7⟩:=q7;exact⟨σ7,H7,I7.wV,q7⟩
  | ret v=>obtain⟨x7,σ7,H7,I7,r7,q7⟩:=q7;exact⟨x7,σ7,H7,I7.wV,r7,q7⟩
end
theorem Hj {K:gK}{a:Addr}{xs:List V}{g:TG}{tb:TS}{D:Ends}{σ:St}{H:Hp}(Pv:Nat->St->Hp->Prop)(h0:Pv 0 σ H)(hl:∀ i σ H,i<=xs.length->Pv i σ H->SqL K H a xs)
  (hs:∀ i x σ H,xs[i]?=My x->Pv i σ H->g x σ H λ σ2 H2=>tb {D with nx:=Pv (i+1),ct:=Pv (i+1),bk:=D.nx} σ2 H2) (hd:∀ σ H,Pv xs.length σ H->D.nx σ H) :
  ∃ W:Nat->Nat->St->Hp->Prop,(∃ m,W 0 m σ H)/\∀ i m σ H,W i m σ H ->
   ((Itl K a).stop i H/\D.nx σ H)\/((Itl K a).go i H/\∃ N:St->Hp->Prop,(∀ σ' H',N σ' H'->∃ m',m'<m/\W (i+1) m' σ' H')/\∀ x H',(Itl K a).yld i H x H'->g x σ H' λ σ2 H2=>tb {D with nx:=N,ct:=N,bk:=D.nx} σ2 H2):=by
 refine⟨λ i m σ H=>m=xs.length-i/\i<=xs.length/\Pv i σ H,⟨xs.length,by simp,aT _,h0⟩,?_⟩;rintro i m σ H ⟨rfl,hi,p⟩;have q:=hl i σ H hi p;by_cases hlt:i<xs.length
 ·refine .inr ⟨⟨xs,xs[i],q,by simp[hlt]⟩,Pv (i+1),λ σ' H' p'=>⟨xs.length-(i+1),by lia,rfl,hlt,p'⟩,λ x H' y=>?_⟩;obtain⟨e,y⟩:=y;subst e;exact hs i x σ _ (y xs q) p
 ·have e:i=xs.length:=by lia
  subst e;exact .inl ⟨⟨xs,q,aw _⟩,hd σ H p⟩
theorem oN {lo:Int}{n:Nat}{g:TG}{tb:TS}{D:Ends}{σ:St}{H:Hp}(Pv:Nat->St->Hp->Prop)(h0:Pv 0 σ H)
  (hs:∀ i σ H,i<n->Pv i σ H->g (.int (lo+i)) σ H λ σ2 H2=>tb {D with nx:=Pv (i+1),ct:=Pv (i+1),bk:=D.nx} σ2 H2) (hd:∀ σ H,Pv n σ H->D.nx σ H) :
  ∃ W:Nat->Nat->St->Hp->Prop,(∃ m,W 0 m σ H)/\∀ i m σ H,W i m σ H ->
   ((Itr lo n).stop i H/\D.nx σ H)\/((Itr lo n).go i H/\∃ N:St->Hp->Prop,(∀ σ' H',N σ' H'->∃ m',m'<m/\W (i+1) m' σ' H')/\∀ x H',(Itr lo n).yld i H x H'->g x σ H' λ σ2 H2=>tb {D with nx:=N,ct:=N,bk:=D.nx} σ2 H2):=by
 refine⟨λ i m σ H=>m=n-i/\i<=n/\Pv i σ H,⟨n,by simp,aT _,h0⟩,?_⟩;rintro i m σ H ⟨rfl,hi,p⟩;by_cases hlt:i<n
 ·refine .inr ⟨hlt,Pv (i+1),λ σ' H' p'=>⟨n-(i+1),by lia,rfl,hlt,p'⟩,λ x H' y=>?_⟩;obtain⟨e,y⟩:=y;subst e y;exact hs i σ _ hlt p
 ·have e:i=n:=by lia
  subst e;exact .inl ⟨aw _,hd σ H p⟩
theorem BS {c:TT}{tb:TS}{D:Ends}{σ:St}{H:Hp}(Pv:St->Hp->Prop)(μ:St->Hp->Nat)(h0:Pv σ H)
  (hs:∀ σ H,Pv σ H->c σ H λ b H1=>if b=U6 then tb {D with nx:=λ σ' H'=>Pv σ' H'/\μ σ' H'<μ σ H,ct:=λ σ' H'=>Pv σ' H'/\μ σ' H'<μ σ H,bk:=D.nx} σ H1 else D.nx σ H1)
  (mono:∀ σ H Q Q',(∀ b H1,Q b H1->Q' b H1)->c σ H Q->c σ H Q'):Dl c tb D σ H:=by
 refine⟨λ m σ H=>m=μ σ H/\Pv σ H,⟨_,rfl,h0⟩,?_⟩;rintro m σ H ⟨rfl,p⟩;refine mono σ H _ _ (λ b H1 q=>?_) (hs σ H p);cases b with
 | true=>exact⟨_,λ σ' H' ⟨p',l⟩=>⟨_,l,rfl,p'⟩,q⟩
 | false=>exact q
abbrev R2:=V->V->Hp->VK->Prop
def OpR (X:Cx)(f:gL->gL->Sem gL)(r:R2):Prop :=
 ∀ (pins:gO) (s:gM) (σ:St) (H:Hp) (x y:V) (v u:gL) (Q:VK),Inv X pins σ H s->RelV x v->RelV y u->r x y H Q ->
  wpAny (model X.prog X.w) X.A (f v u) (EP X pins σ Q) X.xe s
def UnR (X:Cx)(f:gL->Sem gL)(r:V->Hp->VK->Prop):Prop :=
 ∀ (pins:gO) (s:gM) (σ:St) (H:Hp) (x:V) (v:gL) (Q:VK),Inv X pins σ H s->RelV x v->r x H Q ->
  wpAny (model X.prog X.w) X.A (f v) (EP X pins σ Q) X.xe s
def jy (X:Cx)(f:gL)(r:List V->Hp->VK->Prop):Prop :=
 ∀ (pins:gO) (s:gM) (σ:St) (H:Hp) (xs:List V) (us:List gL) (Q:VK),Inv X pins σ H s->Vals xs us->r xs H Q ->
  wpAny (model X.prog X.w) X.A (call f us) (EP X pins σ Q) X.xe s
def Ta (X:Cx)(r:V->Hp->(Bool->Hp->Prop)->Prop):Prop :=
 ∀ (pins:gO) (s:gM) (σ:St) (H:Hp) (x:V) (v:gL) (Q:Bool->Hp->Prop),Inv X pins σ H s->RelV x v->r x H Q ->
  wpAny (model X.prog X.w) X.A (truthy v) (TP X pins σ Q) X.xe s
def tOp (r:R2)(ta tb:TE):TE:=λ σ H Q=>ta σ H λ x H1=>tb σ H1 λ y H2=>r x y H2 Q
def tUn (r:V->Hp->VK->Prop)(ta:TE):TE:=λ σ H Q=>ta σ H λ x H1=>r x H1 Q
def rI (C:Int->Int->Prop)(g:Int->Int->V):R2:=λ x y H Q=>∃ i j,x=.int i/\y=.int j/\C i j/\Q (g i j) H
def rI0 (g:Int->Int->V):R2:=λ x y H Q=>∃ i j,x=.int i/\y=.int j/\Q (g i j) H
def rU (g:Int->V):V->Hp->VK->Prop:=λ x H Q=>∃ i,x=.int i/\Q (g i) H
section
variable {X:Cx}{a b c:Expr}{ta tb tc:TE}{pos:Pos}
theorem NZ (ha:PE X a ta)(hb:PE X b tb){pins:gO}{s:gM}{σ:St}{H:Hp}{R:V->V->Hp->Prop}(I:Inv X pins σ H s)
  (h:ta σ H λ x H1=>tb σ H1 λ y H2=>R x y H2) {Q:gH} {f:gL->gL->Sem gL}
  (hf:∀ v u s2 x y H2,Inv X pins σ H2 s2->RelV x v->RelV y u->R x y H2->wpAny (model X.prog X.w) X.A (f v u) Q X.xe s2) :
  wpAny (model X.prog X.w) X.A (eval a X.env) (λ v s₁=>wpAny (model X.prog X.w) X.A (eval b X.env) (λ u s₂=>wpAny (model X.prog X.w) X.A (f v u) Q X.xe s₂) X.xe s₁) X.xe s:=by
 refine thn (ha pins s σ H _ I h) λ v s1 ⟨x,H1,I1,r1,q1⟩=>?_;refine thn (hb pins s1 σ H1 _ I1 q1) λ u s2 ⟨y,H2,I2,r2,q2⟩=>?_;exact hf v u s2 x y H2 I2 r1 r2 q2
theorem jM {op:Operator}{r:R2}(ho:OpR X (binaryOp op) r)(ha:PE X a ta)(hb:PE X b tb):PE X (.BinOp a op b pos) (tOp r ta tb):=by intro pins s σ H Q I h;exact wpAny_BinOp (NZ ha hb I h λ v u s2 x y H2 I2 rx ry q=>ho pins s2 σ H2 x y v u Q I2 rx ry q)
theorem EK {op:UnaryOp}{r:V->Hp->VK->Prop}(ho:UnR X (unaryOp op) r)(ha:PE X a ta):PE X (.UnaryOp op a pos) (tUn r ta):=by intro pins s σ H Q I h;exact UnaryOp_ (thn (ha pins s σ H _ I h) λ v s1 ⟨x,H1,I1,r1,q1⟩=>ho pins s1 σ H1 x v Q I1 r1 q1)
theorem opI {f:gL->gL->Sem gL}{C:Int->Int->Prop}{g:Int->Int->Int}
  (rule:∀ (i j:Int) (t u:Tok) (s:gM) (Q:gH) (E:gH),C i j->Q (.int (g i j) s.toks) {s with toks:=s.toks+1}->wpAny (model X.prog X.w) X.A (f (.int i t) (.int j u)) Q E s) :
  OpR X f (rI C λ i j=>.int (g i j)):=by
 intro pins s σ H x y v u Q I rx ry h;obtain⟨i,j,rfl,rfl,hc,q⟩:=h;obtain⟨t,rfl⟩:=rx;obtain⟨t',rfl⟩:=ry;exact rule i j t t' s _ _ hc ⟨.int (g i j),H,I.tok _,⟨_,rfl⟩,q⟩
theorem QE {f:gL->gL->Sem gL}{g:Int->Int->Int}
  (rule:∀ (i j:Int) (t u:Tok) (s:gM) (Q:gH) (E:gH),Q (.int (g i j) s.toks) {s with toks:=s.toks+1}->wpAny (model X.prog X.w) X.A (f (.int i t) (.int j u)) Q E s) :
  OpR X f (rI0 λ i j=>.int (g i j)):=by
 intro pins s σ H x y v u Q I rx ry h;obtain⟨i,j,rfl,rfl,q⟩:=h;obtain⟨t,rfl⟩:=rx;obtain⟨t',rfl⟩:=ry;exact rule i j t t' s _ _ ⟨.int (g i j),H,I.tok _,⟨_,rfl⟩,q⟩
theorem N3 {f:gL->gL->Sem gL}{g:Int->Int->Bool}
  (rule:∀ (i j:Int) (t u:Tok) (s:gM) (Q:gH) (E:gH),Q (.bool (g i j)) s->wpAny (model X.prog X.w) X.A (f (.int i t) (.int j u)) Q E s) :
  OpR X f (rI0 λ i j=>.bl (g i j)):=by
 intro pins s σ H x y v u Q I rx ry h;obtain⟨i,j,rfl,rfl,q⟩:=h;obtain⟨t,rfl⟩:=rx;obtain⟨t',rfl⟩:=ry;exact rule i j t t' s _ _ ⟨.bl (g i j),H,I,rfl,q⟩
def Tc (i j:Int):Prop:=0<j/\j<1073741824
def Kv (i j:Int):Prop:=0<=j/\j<=1000000/\i.natAbs<2 ^ 64
def Kw (i j:Int):Prop:=(-(2 ^ 64)<i/\i<2 ^ 64)\/(-(2 ^ 64)<j/\j<2 ^ 64)
theorem Kw.ok {i j:Int}(h:Kw i j):IntMulOk i j:=by
 rcases h with⟨h1,h2⟩ | ⟨h1,h2⟩
 ·exact .of_left (intBits_le_64 h1 h2)
 ·exact .of_right (intBits_le_64 h1 h2)
theorem qB:OpR X (binaryOp .Add) (rI0 λ i j=>.int (i+j)):=QE λ _ _ _ _ _ _ _ q=>add_int q
theorem Al:OpR X (binaryOp .Sub) (rI0 λ i j=>.int (i-j)):=QE λ _ _ _ _ _ _ _ q=>sub_int q
theorem uJ:OpR X (binaryOp .Mult) (rI Kw λ i j=>.int (i*j)):=opI λ _ _ _ _ _ _ _ hc q=>mul_int q hc.ok
theorem Kx:OpR X (binaryOp .FloorDiv) (rI Tc λ i j=>.int (i / j)):=opI λ i j _ _ _ _ _ hc q=>by have h1:(0:Int)<j:=hc.1;have h2:j<1073741824:=hc.2;exact floordiv_int (by lia) (by rw[fO i (by lia)];exact q) (.inl (PyProof.noPylong_small (by lia)))
theorem wW:OpR X (binaryOp .Mod) (rI (λ _ j=>0<j) λ i j=>.int (i % j)):=opI λ i j _ _ _ _ _ hc q=>by have h1:(0:Int)<j:=hc;exact mod_int' (by lia) (by rw[Int.fmod_eq_emod_of_nonneg i (by lia)];exact q)
theorem wX:OpR X (binaryOp .Pow) (rI Kv λ i j=>.int (i ^ j.toNat)):=opI λ _ _ _ _ _ _ _ hc q=>pow_int_small hc.1 hc.2.1 hc.2.2 q
theorem unI {f:gL->Sem gL}{g:Int->Int}
  (rule:∀ (i:Int) (t:Tok) (s:gM) (Q:gH) (E:gH),Q (.int (g i) s.toks) {s with toks:=s.toks+1}->wpAny (model X.prog X.w) X.A (f (.int i t)) Q E s) :
  UnR X f (rU λ i=>.int (g i)):=by
 intro pins s σ H x v Q I rx h;obtain⟨i,rfl,q⟩:=h;obtain⟨t,rfl⟩:=rx;exact rule i t s _ _ ⟨.int (g i),H,I.tok _,⟨_,rfl⟩,q⟩
theorem Am:UnR X (unaryOp .USub) (rU λ i=>.int (-i)):=unI λ _ _ _ _ _ q=>neg_int q
end
def N4:V->V->Bool
 | .non,.non=>U6 | .non,.int _=>U6 | .int _,.non=>U6 | .non,.bl _=>U6 | .bl _,.non=>U6 | .non,.str _=>U6 | .str _,.non=>U6
 | .int _,.int _=>U6 | .bl _,.bl _=>U6 | .str _,.str _=>U6 | .byt _,.byt _=>U6
 | .int _,.str _=>U6 | .str _,.int _=>U6 | .bl _,.str _=>U6 | .str _,.bl _=>U6
 | _,_=>U7
def rEq:R2:=λ x y H Q=>N4 x y=U6/\Q (.bl (decide (x=y))) H
def rNe:R2:=λ x y H Q=>N4 x y=U6/\Q (.bl (!decide (x=y))) H
theorem An {i j:Int}:decide (V.int i=V.int j)=(i==j):=by rw[bJ];simp
theorem Dq {i j:Bool}:decide (V.bl i=V.bl j)=(i==j):=by rw[bJ];simp
theorem Ao {i j:Str}:decide (V.str i=V.str j)=(i==j):=by rw[bJ];simp
theorem EL {i j:Array UInt8}:decide (V.byt i=V.byt j)=(i.toList==j.toList):=by rw[bJ];cases i;cases j;simp
section
variable {X:Cx}{a b c:Expr}{ta tb tc:TE}{pos:Pos}
theorem jm {pins:gO}{σ:St}{H:Hp}{s:gM}{Q:VK}{k k':Bool}(I:Inv X pins σ H s)(q:Q (.bl k) H)(e:k=k'):EP X pins σ Q (.bool k') s:=by subst e;exact⟨.bl k,H,I,rfl,q⟩
theorem QF:OpR X (compareOp .Eq) rEq:=by
 intro pins s σ H x y v u Q I rx ry h;obtain⟨hs,q⟩:=h;cases x with
 | non =>
  cases rx;cases y with
  | non=>cases ry;exact PySem.EqNone.eq_none_none (jm I q (by simp))
  | bl j=>cases ry;exact PySem.EqNone.eq_none_bool (jm I q (by simp))
  | int j=>obtain⟨t',rfl⟩:=ry;exact PySem.EqNone.eq_none_int (jm I q (by simp))
  | str j=>obtain⟨t',rfl⟩:=ry;exact PySem.EqNone.eq_none_str (jm I q (by simp))
  | _=>exact absurd (show U7=U6 from hs) ax
 | bl i =>
  cases rx;cases y with
  | non=>cases ry;exact PySem.EqNone.eq_bool_none (jm I q (by simp))
  | bl j=>cases ry;exact eq_bool (jm I q Dq)
  | str j=>obtain⟨t',rfl⟩:=ry;exact PySem.EqMixed.eq_bool_str (jm I q (by simp))
  | _=>exact absurd (show U7=U6 from hs) ax
 | int i =>
  obtain⟨t,rfl⟩:=rx;cases y with
  | non=>cases ry;exact PySem.EqNone.eq_int_none (jm I q (by simp))
  | int j=>obtain⟨t',rfl⟩:=ry;exact eq_int (jm I q An)
  | str j=>obtain⟨t',rfl⟩:=ry;exact PySem.EqMixed.eq_int_str (jm I q (by simp))
  | _=>exact absurd (show U7=U6 from hs) ax
 | str i =>
  obtain⟨t,rfl⟩:=rx;cases y with
  | non=>cases ry;exact PySem.EqNone.eq_str_none (jm I q (by simp))
  | bl j=>cases ry;exact PySem.EqMixed.eq_str_bool (jm I q (by simp))
  | int j=>obtain⟨t',rfl⟩:=ry;exact PySem.EqMixed.eq_str_int (jm I q (by simp))
  | str j=>obtain⟨t',rfl⟩:=ry;exact eq_str (jm I q Ao)
  | _=>exact absurd (show U7=U6 from hs) ax
 | byt i =>
  obtain⟨t,rfl⟩:=rx;cases y with
  | byt j=>obtain⟨t',rfl⟩:=ry;exact PySem.W.eq_bytes (jm I q EL)
  | _=>exact absurd (show U7=U6 from hs) ax
 | _=>cases y<;>exact absurd (show U7=U6 from hs) ax
theorem MQ:OpR X (compareOp .NotEq) rNe:=by
 intro pins s σ H x y v u Q I rx ry h;obtain⟨hs,q⟩:=h;cases x with
 | non =>
  cases rx;cases y with
  | non=>cases ry;exact PySem.EqNone.ne_none_none (jm I q (by simp))
  | bl j=>cases ry;exact PySem.EqNone.ne_none_bool (jm I q (by simp))
  | int j=>obtain⟨t',rfl⟩:=ry;exact PySem.EqNone.ne_none_int (jm I q (by simp))
  | str j=>obtain⟨t',rfl⟩:=ry;exact PySem.EqNone.ne_none_str (jm I q (by simp))
  | _=>exact absurd (show U7=U6 from hs) ax
 | bl i =>
  cases rx;cases y with
  | non=>cases ry;exact PySem.EqNone.ne_bool_none (jm I q (by simp))
  | bl j=>cases ry;exact ne_bool (jm I q (cN not Dq))
  | str j=>obtain⟨t',rfl⟩:=ry;exact PySem.EqMixed.ne_bool_str (jm I q (by simp))
  | _=>exact absurd (show U7=U6 from hs) ax
 | int i =>
  obtain⟨t,rfl⟩:=rx;cases y with
  | non=>cases ry;exact PySem.EqNone.ne_int_none (jm I q (by simp))
  | int j=>obtain⟨t',rfl⟩:=ry;exact ne_int (jm I q (cN not An))
  | str j=>obtain⟨t',rfl⟩:=ry;exact PySem.EqMixed.ne_int_str (jm I q (by simp))
  | _=>exact absurd (show U7=U6 from hs) ax
 | str i =>
  obtain⟨t,rfl⟩:=rx;cases y with
  | non=>cases ry;exact PySem.EqNone.ne_str_none (jm I q (by simp))
  | bl j=>cases ry;exact PySem.EqMixed.ne_str_bool (jm I q (by simp))
  | int j=>obtain⟨t',rfl⟩:=ry;exact PySem.EqMixed.ne_str_int (jm I q (by simp))
  | str j=>obtain⟨t',rfl⟩:=ry;exact ne_str (jm I q (cN not Ao))
  | _=>exact absurd (show U7=U6 from hs) ax
 | byt i =>
  obtain⟨t,rfl⟩:=rx;cases y with
  | byt j=>obtain⟨t',rfl⟩:=ry;exact PySem.W.ne_bytes (jm I q (cN not EL))
  | _=>exact absurd (show U7=U6 from hs) ax
 | _=>cases y<;>exact absurd (show U7=U6 from hs) ax
theorem MR:OpR X (compareOp .Lt) (rI0 λ i j=>.bl (decide (i<j))):=N3 λ _ _ _ _ _ _ _ q=>lt_int q
theorem QG:OpR X (compareOp .LtE) (rI0 λ i j=>.bl (decide (i<=j))):=N3 λ _ _ _ _ _ _ _ q=>le_int q
theorem QH:OpR X (compareOp .GtE) (rI0 λ i j=>.bl (decide (j<=i))):=N3 λ _ _ _ _ _ _ _ q=>ge_int q
theorem wY (b:Expr){op:CmpOp}(h:op≠.In:=by decide)(h2:op≠.NotIn:=by decide):behindInMarks op b=U7:=by
 have e1:(op==CmpOp.In)=U7:=by cases op<;>first | rfl | exact absurd rfl h
 have e2:(op==CmpOp.NotIn)=U7:=by cases op<;>first | rfl | exact absurd rfl h2
 cases b<;>simp[behindInMarks,e1,e2]
theorem Ky {op:CmpOp}{r:R2}(ho:OpR X (compareOp op) r)(ha:PE X a ta)(hb:PE X b tb)(hm:behindInMarks op b=U7):PE X (.Compare a [op] [b] pos) (tOp r ta tb):=by intro pins s σ H Q I h;exact wpAny_Compare1 (NZ ha hb I h λ v u s2 x y H2 I2 rx ry q=>ho pins s2 σ H2 x y v u Q I2 rx ry q) hm
def Hk (t:TE):TT:=λ σ H Q=>t σ H λ x H'=>∃ k,x=.bl k/\Q k H'
theorem wd {op:CmpOp}{r:R2}(ho:OpR X (compareOp op) r)(ha:PE X a ta)(hb:PE X b tb)(hm:behindInMarks op b=U7):PT X (.Compare a [op] [b] pos) (Hk (tOp r ta tb)):=by
 intro pins s σ H Q I h;refine wpAny_isTrue_Compare1 (thn (ha pins s σ H _ I h) λ v s1 ⟨x,H1,I1,r1,q1⟩=>thn (hb pins s1 σ H1 _ I1 q1) λ u s2 ⟨y,H2,I2,r2,q2⟩ =>thn (ho pins s2 σ H2 x y v u _ I2 r1 r2 q2) λ c s3 ⟨z,H3,I3,r3,k,e,q3⟩=>?_) hm
 subst e;cases r3;exact bT ⟨H3,I3,q3⟩
def Ds (r r':R2)(ta tb tc:TE):TE:=λ σ H Q=>ta σ H λ x H1=>tb σ H1 λ y H2=>r x y H2 λ z H3=>∃ k,z=.bl k /\
 (if k=U6 then tc σ H3 λ w' H4=>r' y w' H4 Q else Q (.bl U7) H3)
theorem Hl {op op':CmpOp}{r r':R2}(ho:OpR X (compareOp op) r)(ho':OpR X (compareOp op') r')(ha:PE X a ta)(hb:PE X b tb)(hc:PE X c tc)
  (hm:lastMarks [op,op'] [b,c]=U7:=by with_unfolding_all rfl):PE X (.Compare a [op,op'] [b,c] pos) (Ds r r' ta tb tc):=by
 intro pins s σ H Q I h;refine Compare_chain (thn (ha pins s σ H _ I h) λ v s1 ⟨x,H1,I1,r1,q1⟩=>chain_link (thn (hb pins s1 σ H1 _ I1 q1) λ u s2 ⟨y,H2,I2,r2,q2⟩ =>thn (ho pins s2 σ H2 x y v u _ I2 r1 r2 q2) λ d s3 ⟨z,H3,I3,r3,k,e,q3⟩=>?_)) hm
 subst e;cases r3;refine bT ?_;cases k with
 | false=>exact ite_ff ⟨.bl U7,H3,I3,rfl,q3⟩
 | true=>exact ite_tt (chain_last (thn (hc pins s3 σ H3 _ I3 q3) λ w' s4 ⟨z',H4,I4,r4,q4⟩=>ho' pins s4 σ H4 y z' u w' Q I4 r2 r4 q4))
theorem Hm {op op':CmpOp}{r r':R2}(ho:OpR X (compareOp op) r)(ho':OpR X (compareOp op') r')(ha:PE X a ta)(hb:PE X b tb)(hc:PE X c tc)
  (hm:lastMarks [op,op'] [b,c]=U7:=by with_unfolding_all rfl):PT X (.Compare a [op,op'] [b,c] pos) (Hk (Ds r r' ta tb tc)):=by
 intro pins s σ H Q I h;refine isTrue_chain (thn (ha pins s σ H _ I h) λ v s1 ⟨x,H1,I1,r1,q1⟩=>test_link (thn (hb pins s1 σ H1 _ I1 q1) λ u s2 ⟨y,H2,I2,r2,q2⟩ =>thn (ho pins s2 σ H2 x y v u _ I2 r1 r2 q2) λ d s3 ⟨z,H3,I3,r3,k,e,q3⟩=>?_)) hm
 subst e;cases r3;refine bT ?_;cases k with
 | false =>obtain⟨k',e',q'⟩:=q3;cases e';exact ite_ff ⟨H3,I3,q'⟩
 | true =>refine ite_tt (test_last (thn (hc pins s3 σ H3 _ I3 q3) λ w' s4 ⟨z',H4,I4,r4,q4⟩=>thn (ho' pins s4 σ H4 y z' u w' _ I4 r2 r4 q4) λ d' s5 ⟨z2,H5,I5,r5,k2,e2,q5⟩=>?_));subst e2;cases r5;exact bT ⟨H5,I5,q5⟩
def Kz (K:gK)(x:V)(H:Hp)(k:Bool):Prop :=
 match x with
 | .non=>k=U7
 | .bl b=>k=b
 | .int i=>k=(i != 0)
 | .str y=>y.length<=sizeLine/\k=((y.length:Int) != 0)
 | .byt y=>y.size<=sizeLine/\k=((y.size:Int) != 0)
 | .ref p=>(∃ xs,SqL K H p xs/\k=!xs.isEmpty)\/(∃ xs,SqT K H p xs/\k=!xs.isEmpty)\/∃ kvs,H p=My (.dK kvs)/\k=!kvs.isEmpty
 | _=>False
theorem Du {κ:Type}{kvs:List (κ×V)}{vs:List (κ×gL)}(r:KV kvs vs):(!vs.isEmpty)=!kvs.isEmpty:=by cases r<;>rfl
theorem wZ {xs:List V}{its:List gL}(r:Vals xs its):(!its.toArray.isEmpty)=!xs.isEmpty:=by cases r<;>simp
theorem uK:(sizeLine:Nat)<2 ^ 63:=by rw[sizeLine_eq];decide
theorem N5:Ta X (λ x H Q=>∃ k,Kz X.K x H k/\Q k H):=by
 intro pins s σ H x v Q I rx h;obtain⟨k,e,q⟩:=h;have hl:=uK;have hs:sizeLine=16777216:=sizeLine_eq;cases x with
 | non =>cases rx;have e':k=U7:=e;subst e';exact truthy_none ⟨H,I,q⟩
 | bl b =>cases rx;have e':k=b:=e;subst e';exact bT ⟨H,I,q⟩
 | int i =>obtain⟨t,rfl⟩:=rx;have e':k=(i != 0):=e;subst e';exact PySem.P.truthy_int ⟨H,I,q⟩
 | str y =>obtain⟨t,rfl⟩:=rx;obtain⟨hy,e'⟩:y.length<=sizeLine/\k=((y.length:Int) != 0):=e;subst e';exact PySem.P.truthy_str (by lia) ⟨H,I.tok _,q⟩
 | byt y =>obtain⟨t,rfl⟩:=rx;obtain⟨hy,e'⟩:y.size<=sizeLine/\k=((y.size:Int) != 0):=e;subst e';exact PySem.W.truthy_bytes (by lia) ⟨H,I.tok _,q⟩
 | ref p =>
  cases rx;have e':(∃ xs,SqL X.K H p xs/\k=!xs.isEmpty)\/(∃ xs,SqT X.K H p xs/\k=!xs.isEmpty)\/∃ kvs,H p=My (.dK kvs)/\k=!kvs.isEmpty:=e;rcases e' with⟨xs,hx,e'⟩ | ⟨xs,hx,e'⟩ | ⟨kvs,hx,e'⟩
  ·subst e';obtain⟨its,r,pl,hz⟩:=I.list hx;have hlen:=r.length;exact wpAny_truthy_list pl.isList (by simp only[ar];lia) ⟨H,I.tok _,by rw[wZ r];exact q⟩
  ·subst e';obtain⟨its,r,pl,hz⟩:=I.tuple hx;have hlen:=r.length;exact truthy_tuple pl (by simp only[ar];lia) ⟨H,I.tok _,by rw[wZ r];exact q⟩
  ·subst e';obtain⟨hz,hS,vs,r,m⟩:kvs.length<=sizeLine/\(p==sysModules)=U7/\∃ vs,KV kvs vs/\s.heap.DictOf (kh X.prog X.w) p vs:=I.hok p _ hx;have hlen:kvs.length=vs.length:=fE r;exact wpAny_truthy_dict hS m (by lia) ⟨H,I.tok _,by rw[Du r];exact q⟩
 | _=>exact(show False from e).elim
theorem BU (ha:PE X a ta)(he:∀ whole,isTrue a X.env whole=(do let v<-whole;standAt a.pos;holding [v] (truthy v))) :
  PT X a (λ σ H Q=>ta σ H λ x H'=>∃ k,Kz X.K x H' k/\Q k H'):=by
 intro pins s σ H Q I h;exact isTrue_plain (thn (ha pins s σ H _ I h) λ v s1 ⟨x,H1,I1,r1,q1⟩=>N5 pins s1 σ H1 x v Q I1 r1 q1) (he _)
theorem vals1 {x:V}{us:List gL}(r:Vals [x] us):∃ u,us=[u]/\RelV x u:=by
 cases r with
 | cons r1 r2=>cases r2;exact⟨_,rfl,r1⟩
theorem vals2 {x y:V}{us:List gL}(r:Vals [x,y] us):∃ u w',us=[u,w']/\RelV x u/\RelV y w':=by
 cases r with
 | cons r1 r2 =>
  cases r2 with
  | cons r3 r4=>cases r4;exact⟨_,_,rfl,r1,r3⟩
theorem Hn:jy X (.builtin "abs") (λ xs H Q=>∃ i,xs=[.int i]/\Q (.int (if i<0 then -i else i)) H):=by intro pins s σ H xs us Q I r h;obtain⟨i,rfl,q⟩:=h;obtain⟨u,rfl,t,rfl⟩:=vals1 r;exact call_abs_int λ u tk=>⟨.int (if i<0 then -i else i),H,I.tok _,⟨_,rfl⟩,q⟩
theorem uL (hc:X.calm=U6):jy X (.builtin "max") (λ xs H Q=>∃ i j,xs=[.int i,.int j]/\Q (.int (if j>i then j else i)) H):=by
 intro pins s σ H xs us Q I r h;obtain⟨i,j,rfl,q⟩:=h;obtain⟨u,w',rfl,⟨t,rfl⟩,⟨t',rfl⟩⟩:=vals2 r;refine max_two_ints (I.ok.hd hc) λ h' tk k=>⟨_,H,I.kept k,?_,q⟩;by_cases hj:j>i
 ·rw[ai hj,ai hj];exact⟨_,rfl⟩
 ·rw[au hj,au hj];exact⟨_,rfl⟩
theorem uM (hc:X.calm=U6):jy X (.builtin "min") (λ xs H Q=>∃ i j,xs=[.int i,.int j]/\Q (.int (if j<i then j else i)) H):=by
 intro pins s σ H xs us Q I r h;obtain⟨i,j,rfl,q⟩:=h;obtain⟨u,w',rfl,⟨t,rfl⟩,⟨t',rfl⟩⟩:=vals2 r;refine min_two_ints (I.ok.hd hc) λ h' tk k=>⟨_,H,I.kept k,?_,q⟩;by_cases hj:j<i
 ·rw[ai hj,ai hj];exact⟨_,rfl⟩
 ·rw[au hj,au hj];exact⟨_,rfl⟩
theorem F0:jy X (.type "int") (λ xs H Q=>(∃ i,xs=[.int i]/\Q (.int i) H)\/∃ k,xs=[.bl k]/\Q (.int (if k then 1 else 0)) H):=by
 intro pins s σ H xs us Q I r h;rcases h with⟨i,rfl,q⟩ | ⟨k,rfl,q⟩
 ·obtain⟨u,rfl,t,rfl⟩:=vals1 r;exact call_int_int ⟨.int i,H,I,⟨_,rfl⟩,q⟩
 ·obtain⟨u,rfl,r1⟩:=vals1 r;cases r1;exact call_int_bool ⟨.int (if k then 1 else 0),H,I.tok _,⟨_,rfl⟩,q⟩
end
section
variable {prog:Program}{w:World}{A:Around}{E:gH}{s:gM}{K:gK}{x dx C f:Addr}{mA:gG}{name:Str}{v:gL}
end
theorem yK.some_of {v:V}{o:gJ gL}(r:yK (My v) o):∃ u,o=My u/\RelV v u:=by
 cases o with
 | none=>exact(show False from r).elim
 | some u=>exact⟨u,rfl,r⟩
section
variable {P:Program}{w:World}{H H':Hp}{h h':Heap}{a C dx:Addr}{fs fs':List (Str×V)}
end
section
variable {X:Cx}{pins:gO}{σ:St}{H:Hp}{s:gM}{a C dx:Addr}{fs:List (Str×V)}{f:Str}{v:V}{A:Around}{E:gH}
end
section
variable {X:Cx}{o e value:Expr}{f:Str}{pos pos' tpos:Pos}{ta tv:TE}
end
section
variable {X:Cx}{pins:gO}{σ:St}{H:Hp}{s:gM}{A:Around}{E:gH}{Q:gH}{c:gL}{b:Bool}
end
structure jI (k:Nat)(A:Around):Prop where
 hd:A.handled=U5
 dp:A.depth+3*k+5<recursionLimit
 un:A.units+16*k+200<cLine
 gd:A.guards=My []
theorem jI.mono {j k:Nat}{A:Around}(r:jI k A)(h:j<=k):jI j A:=⟨r.hd,by have:=r.dp;lia,by have:=r.un;lia,r.gd⟩
theorem jI.deeper {k:Nat}{A:Around}(r:jI (k+1) A)(env:Env):jI k (A.deeper env) :=
 ⟨r.hd,by have:=r.dp;show A.depth+1+3*k+5<_;lia,by have:=r.un;show A.units+3+16*k+200<_;lia,r.gd⟩
theorem jI.depth {k:Nat}{A:Around}(r:jI k A):A.depth<recursionLimit:=by have:=r.dp;lia
theorem jI.units {k:Nat}{A:Around}(r:jI k A):A.units+64<cLine:=by have:=r.un;lia
def i8:TA:=λ _ H Q=>Q [] H
def g0 (ta:TE)(tr:TA):TA:=λ σ H Q=>ta σ H λ x H1=>tr σ H1 λ xs H2=>Q (x::xs) H2
section
variable {X:Cx}{e:Expr}{es:List Expr}{te:TE}{t:TA}{pos:Pos}
theorem hZ:PA X [] i8:=λ _ _ _ _ H Q I h=>Calls.spliced_nil ⟨[],H,I,.nil,h⟩
theorem gW (ha:PE X e te)(hr:PA X es t)(hs:starEach (e::es) X.env=(U7,eval e X.env)::starEach es X.env:=by rfl):PA X (e::es) (g0 te t):=by intro pos pins s σ H Q I h;rw[hs];show wpAny _ _ (spliced ((U7,eval e X.env)::backTo pos (starEach es X.env))) _ _ s;refine Calls.spliced_cons (thn (ha pins s σ H _ I h) λ u s1 ⟨x,H1,I1,r1,q1⟩=>?_);exact thn (hr pos pins s1 σ H1 _ I1 q1) λ us s2 ⟨xs,H2,I2,r2,q2⟩=>⟨x::xs,H2,I2,.cons r1 r2,q2⟩
def Aq (t:TA):TE:=λ σ H Q=>t σ H λ xs H1=>xs.length<=sizeLine/\∀ p,H1 p=U5->Q (.ref p) (upd H1 p (.tup xs))
def rV (t:TA):TE:=λ σ H Q=>t σ H λ xs H1=>xs.length<=sizeLine/\∀ p,H1 p=U5->Q (.ref p) (upd H1 p (.lst xs))
theorem qC {x1}(h:PA X es t):PE X (.Tuple es x1 pos) (Aq t):=by intro pins s σ H Q I hq;refine wpAny_Tuple_spliced (thn (h pos pins s σ H _ I hq) λ us s1 ⟨xs,H1,I1,r,z,q⟩=>⟨by rw[<-r.length];exact z,?_⟩);have hf:H1 s1.heap.objs.size=U5:=I1.hok.fresh (aw _);refine⟨.ref s1.heap.objs.size,upd H1 s1.heap.objs.size (.tup xs),I1.laid (t':=s1.toks) (λ b u e=>ag _ e) (aw _) ?_,rfl,q _ hf⟩;exact⟨⟨z,_,aF _ rfl,rfl⟩,us,r,⟨_,aF _ rfl,rfl,_,rfl⟩⟩
theorem kG (h:PA X es t):PE X (.List es pos) (rV t):=by intro pins s σ H Q I hq;refine wpAny_List_spliced (thn (h pos pins s σ H _ I hq) λ us s1 ⟨xs,H1,I1,r,z,q⟩=>⟨by rw[<-r.length];exact z,?_⟩);have hf:H1 s1.heap.objs.size=U5:=I1.hok.fresh (aw _);refine⟨.ref s1.heap.objs.size,upd H1 s1.heap.objs.size (.lst xs),I1.laid (t':=s1.toks) (λ b u e=>ag _ e) (aw _) ?_,rfl,q _ hf⟩;exact⟨z,us,0,r,aF _ rfl⟩
end
abbrev Sp:=List V->Hp->VK->XK->Prop
abbrev CXT:=List Env->Hp->gM->XK->gL->gM->Prop
structure F3 (P:Program)(w:World)(K:gK)(mg:gG)(base:Heap)(A:Around)(outer:List Env)(s:gM)(H:Hp):Prop where
 frames:A.frames=My outer
 mod:Mod K mg base
 bs:∀ b o,base.get? b=My o->s.heap.get? b=My o/\H b=U5
 bsz:base.objs.size<=s.heap.objs.size
 uF:s.heap.FunFrames base outer
 frf:∀ b∈frs outer,H b=U5
 hok:HOk P w H s.heap
 bare:AllBare s.gens
def CE (outer:List Env)(P:Program)(w:World)(H:Hp)(s:gM)(Q:VK)(u:gL)(s':gM):Prop :=
 ∃ v H',s'.os=s.os/\AllBare s'.gens/\Un (frs outer) [] H H' s.heap s'.heap/\HOk P w H' s'.heap/\RelV v u/\Q v H'
def CR (CX:CXT)(outer:List Env)(P:Program)(w:World)(H:Hp)(s:gM)(Q:VK)(E:XK)(r:Result)(s':gM):Prop :=
 match r with
 | .ok (.ret u)=>CE outer P w H s Q u s'
 | .ok _=>False
 | .error e=>CX outer H s E e s'
structure pg (P:Program)(w:World)(K:gK)(mg:gG)(base:Heap)(CX:CXT)(k:Nat)(f:Addr)(fd:FuncData)(ps:List Str)(sp:Sp):Prop where
 len:∀ vs H Q E,sp vs H Q E->vs.length=ps.length
 run:∀ (A:Around) (outer:List Env) (s:gM) (H:Hp) (args:Args) (us:List gL) (vs:List V) (Q:VK) (E:XK),jI k A->F3 P w K mg base A outer s H->BindsTo s fd args (ps.zip us)->Vals vs us->sp vs H Q E ->
  codeAny (model P w) A (.call (.ref f) args) (CR CX outer P w H s Q E) s
section
variable {X:Cx}{pins:gO}{σ:St}{H:Hp}{s s':gM}
theorem Inv.QI (I:Inv X pins σ H s):F3 X.prog X.w X.K X.mg X.base X.A X.stack s H :=
 ⟨I.ok.frames,I.ok.mod,I.bs,bD I.ok.bsz I.sz,I.stack,I.sX,I.hok,I.bare⟩
theorem Inv.after {Q:VK}{u:gL}(I:Inv X pins σ H s)(h:CE X.stack X.prog X.w H s Q u s'):EP X pins σ Q u s':=by obtain⟨v,H',os,bare,un,hok,r,q⟩:=h;obtain⟨hh,g,d,t,os'⟩:=s';obtain rfl:os'=s.os:=os;exact⟨v,H',I.call (h':=hh) (g':=g) (d':=d) (t':=t) (ch:=[]) un hok bare (λ b z=>absurd z (by simp)),r,q⟩
end
def jD (sp:Sp)(dvs:List V)(E:XK)(t:TA):TE:=λ σ H Q=>t σ H λ vs H1=>sp (vs++dvs) H1 Q E
def Binds (K:gK)(fd:FuncData)(ps:List Str)(ds:List gL):Prop :=
 ∀ (s:gM) (us:List gL),K.In s.heap->(us++ds).length=ps.length->BindsTo s fd ⟨us,[]⟩ (ps.zip (us++ds))
theorem Binds.all {K:gK}{fd:FuncData}{ps:List Str}(h:∀ us:List gL,us.length=ps.length->bindArgs fd ⟨us,[]⟩=pure (ps.zip us)):Binds K fd ps []:=λ s us _ hl=>by rw[bB]at hl ⊢;exact .of_eq (h us hl)
def Passes (CX:CXT)(X:Cx)(E:XK):Prop:=∀ (pins:gO) (σ:St) (H:Hp) (s:gM) (e:gL) (s':gM),Inv X pins σ H s->CX X.stack H s E e s'->X.xe e s'
section
variable {X:Cx}{CX:CXT}{k:Nat}{f C:Addr}{fd:FuncData}{ps:List Str}{sp:Sp}{dvs:List V}{ds:List gL}{E:XK}{x m:Str}{p pos apos:Pos}{e o:Expr}{es:List Expr}{ta:TE}{t:TA}
theorem N6 {pins:gO}{σ:St}{H:Hp}{s:gM}{Q:VK}{us:List gL}{vs:List V}(F:pg X.prog X.w X.K X.mg X.base CX k f fd ps sp)(hr:jI k X.A)(hb:Binds X.K fd ps ds)(hd:Vals dvs ds)(hx:Passes CX X E)
  (I:Inv X pins σ H s) (r:Vals vs us) (h:sp (vs++dvs) H Q E):wpAny (model X.prog X.w) X.A (call (.ref f) us) (EP X pins σ Q) X.xe s:=by
 have r2:Vals (vs++dvs) (us++ds):=r.append hd;have hl:(us++ds).length=ps.length:=by rw[<-r2.length];exact F.len _ _ _ _ h
 refine gf (codeAny_mono (F.run X.A X.stack s H ⟨us,[]⟩ (us++ds) (vs++dvs) Q E hr I.QI (hb s us I.kIn hl) r2 h) λ r s' hq=>?_);cases r with
 | error e=>exact hx pins σ H s e s' I hq
 | ok fl =>
  cases fl with
  | ret u=>exact I.after hq
  | next=>exact False.elim hq
  | brk=>exact False.elim hq
  | cont=>exact False.elim hq
theorem s_ (F:pg X.prog X.w X.K X.mg X.base CX k f fd ps sp)(hr:jI k X.A)(hg:Gl X x)(hm:X.mg x=My (.ref f))(hk:PySem.W.keepIn X.K (.ref f)=U6)(hb:Binds X.K fd ps ds)(hd:Vals dvs ds)(hx:Passes CX X E)
  (ha:PA X (e::es) t) (hdb:(x==("__debug__":Str))=U7:=by decide) (he:starEach (e::es) X.env=(U7,eval e X.env)::starEach es X.env:=by rfl) (hpl:(backTo pos (starEach es X.env)).any (·.1)=U7:=by rfl) :
  PE X (.Call (.Name x p) (e::es) [] pos) (jD sp dvs E t):=by
 intro pins s σ H Q I h;refine eU (sY I hg hm ?_ hdb);refine PySem.W.callWith_K (h₀:=X.base) I.ok.mod.kin hk (thn (ha pos pins s σ H _ I h) λ us s1 ⟨vs,H1,I1,r,q⟩=>⟨I1.kIn,?_⟩) he hpl;exact N6 F hr hb hd hx I1 r q
end
section
variable {X:Cx}{CX:CXT}{k:Nat}{f C:Addr}{fd:FuncData}{ps ks:List Str}{sp:Sp}{E:XK}{x m:Str}{p pos apos kpos:Pos}{e o:Expr}{es:List Expr}{kws:List Keyword}{te ta:TE}{t tk:TA}{nm:gJ Str}
variable {g:List gL->List gL->List gL}{gV:List V->List V->List V}
end
structure il (N P:List Str)(sc:Scope):Prop where
 kind:sc.kind=.function
 co:sc.isCoroutine=U7
 gen:sc.isGenerator=U7
 nd:N.Nodup
 pre:N.take P.length=P
 par:∀ x∈P,sc.names.lookup x=My .local\/sc.names.lookup x=My .cell
 N7:∀ y∈sc.names,y.2≠.free
theorem zw {kindOf:Str->gJ NameKind}{x:Str}:∀ {binds:List (Str×gL)} {m:gG},(∀ v,(x,v)∉binds)->bindL kindOf binds m x=m x
 | [],_,_=>rfl
 | (n,v)::r,m,h=>by
  unfold bindL;rw[zw λ w hw=>h w (ay _ hw)];split
  ·have:x≠n:=by rintro rfl;exact h v aB
   simp[this]
  ·rfl
theorem zx {kindOf:Str->gJ NameKind}{x:Str}:∀ {binds:List (Str×gL)} {m:gG},(∀ v,(x,v)∉binds)->bindC kindOf binds m x=m x
 | [],_,_=>rfl
 | (n,v)::r,m,h=>by
  unfold bindC;rw[zx λ w hw=>h w (ay _ hw)];split
  ·rfl
  ·have:x≠n:=by rintro rfl;exact h v aB
   simp[this]
theorem zy {kindOf:Str->gJ NameKind}{x:Str}{v:gL}:∀ {P:List Str} {vs:List gL} {i:Nat} {m:gG},P.Nodup->P[i]?=My x->vs[i]?=My v->kindOf x=My .local ->
  bindL kindOf (P.zip vs) m x=My v
 | [],_,_,_,_,h,_,_=>by simp at h
 | _::_,[],_,_,_,_,h,_=>by simp at h
 | p::P,w::vs,0,m,nd,h1,h2,hk=>by simp at h1 h2;subst h1;subst h2;show bindL kindOf ((p,w)::P.zip vs) m p=_;unfold bindL;rw[zw λ v hv=>(bC.mp nd).1 (eS hv).1,ai hk];simp
 | p::P,w::vs,i+1,m,nd,h1,h2,hk=>by show bindL kindOf ((p,w)::P.zip vs) m x=_;unfold bindL;exact zy (i:=i) (bC.mp nd).2 (by simpa using h1) (by simpa using h2) hk
theorem zz {kindOf:Str->gJ NameKind}{x:Str}{v:gL}:∀ {P:List Str} {vs:List gL} {i:Nat} {m:gG},P.Nodup->P[i]?=My x->vs[i]?=My v->kindOf x≠My .local ->
  bindC kindOf (P.zip vs) m x=My v
 | [],_,_,_,_,h,_,_=>by simp at h
 | _::_,[],_,_,_,_,h,_=>by simp at h
 | p::P,w::vs,0,m,nd,h1,h2,hk=>by simp at h1 h2;subst h1;subst h2;show bindC kindOf ((p,w)::P.zip vs) m p=_;unfold bindC;rw[zx λ v hv=>(bC.mp nd).1 (eS hv).1,au hk];simp
 | p::P,w::vs,i+1,m,nd,h1,h2,hk=>by show bindC kindOf ((p,w)::P.zip vs) m x=_;unfold bindC;exact zz (i:=i) (bC.mp nd).2 (by simpa using h1) (by simpa using h2) hk
def start (N:List Str)(vs:List V):St:=vs.map My++U9 (N.length-vs.length) U5
def qt (CX:CXT)(P:Program)(w:World)(K:gK)(mg:gG)(base:Heap)(N:List Str)(qual:Str)(scope:Scope)(f:Addr)(cd:gL)(A:Around)(outer:List Env)(s:gM)(H:Hp)(E:XK):Cx where
 prog:=P
 w:=w
 K:=K
 mg:=mg
 base:=base
 A:=A.deeper (envOfC qual scope s.heap.objs.size f cd)
 N:=N
 s₀:=s
 H₀:=H
 env:=envOfC qual scope s.heap.objs.size f cd
 outer:=outer
 stack:=envOfC qual scope s.heap.objs.size f cd::outer
 ex:=[]
 calm:=U6
 fn:=λ _=>U6
 pn:=[]
 xe:=λ e s'=>wpAny (model P w) (A.deeper (envOfC qual scope s.heap.objs.size f cd)) (leaving (envOfC qual scope s.heap.objs.size f cd) e) (λ _ s''=>CX outer H s E e s'') (λ e' s''=>CX outer H s E e' s'') s'
theorem BV {sc:Scope}{n:Nat}{x:Str}(h:sc.names.lookup x=My .cell):∃ c,(cellsFrom n sc.names []).lookup x=My c:=by have q:=fb sc.names n [] (.inl h);exact cP.mp q
theorem zA {CX:CXT}{P:Program}{w:World}{K:gK}{mg:gG}{base:Heap}{N ps:List Str}{qual:Str}{scope:Scope}{f:Addr}{cd:gL}{A:Around}{outer:List Env}{s s1:gM}{H:Hp}{E:XK}{us:List gL}{vs:List V}
  (S:il N ps scope) (hd:A.handled=U5) (e0:F3 P w K mg base A outer s H) (hl:vs.length=ps.length) (r:Vals vs us)
  (x:InCallC s s.heap.objs.size (bindL (envOfC qual scope s.heap.objs.size f cd).kindOf (ps.zip us) λ _=>U5) (cellsFrom (s.heap.objs.size+1) scope.names []) (bindC (envOfC qual scope s.heap.objs.size f cd).kindOf (ps.zip us) λ _=>U5) s1) :
  Inv (qt CX P w K mg base N qual scope f cd A outer s H E) [] (start N vs) H s1:=by
 have hpl:ps.length<=N.length:=by have:=cN List.length S.pre;rw[bX]at this;lia
 obtain⟨h1,tk,rfl,hk⟩:=x.done;have noA:∀ b:Addr,b∉(qt CX P w K mg base N qual scope f cd A outer s H E).ex:=λ b z=>absurd (show b∈([]:List Addr) from z) (by simp);refine⟨⟨e0.mod,S.kind,rfl,rfl,aw _,λ y z c h1 h2=>?_,λ y hy=>?_,λ y c _ h=>?_,λ _=>hd,Around.frames_deeper e0.frames,.inr ⟨rfl,rfl⟩,λ b z=>absurd z (noA b),e0.bs,e0.bsz,λ b _ _=>noA b,λ b z=>absurd z (noA b),e0.uF,e0.frf⟩,
  rfl,e0.bare,Un.kept hk,⟨_,x.toInCall.ns,λ i y v h1 h2 h3=>?_⟩,λ y c h=>⟨_,x.cell y c h⟩,e0.hok.fresh (aw _),λ y c h=>?_,λ p hp=>absurd (show p∈([]:gO) from hp) (by simp),e0.hok.kept hk,?_⟩
 ·exact name_of_addr x.apart (cU h1) (cU h2)
 ·have hy:scope.names.lookup y=My .cell\/scope.names.lookup y=My .free:=hy
  rcases hy with hy | hy
  ·exact BV hy
  ·exact absurd rfl (S.N7 _ (cU hy))
 ·exact d9 (x.above y c (cU h))
 ·have hi:i<vs.length:=by
   unfold start at h2;by_cases hi:i<vs.length
   ·exact hi
   ·rw[bM (by simpa using hi)]at h2;rw[List.getElem?_replicate]at h2;split at h2<;>cases h2
  have ha:vs[i]?=My v:=by
   unfold start at h2;rw[bS (by simpa using hi),aH]at h2;cases e:vs[i]? with
   | none=>rw[e]at h2;cases h2
   | some a=>rw[e]at h2;cases h2;rfl
  obtain⟨u,hu,rv⟩:=r.get ha;have hp:ps[i]?=My y:=by rw[<-S.pre,eM (by lia)];exact h1
  have ndP:ps.Nodup:=by rw[<-S.pre];exact S.nd.sublist (List.take_sublist _ _)
  refine⟨u,rv,?_⟩;rcases S.par y (bt hp) with k | k
  ·exact .inl ⟨k,zy ndP hp hu k⟩
  ·obtain⟨c,e⟩:=BV (n:=s.heap.objs.size+1) k;refine .inr ⟨.inl k,c,e,?_⟩;have q:=x.cell y c e;rw[zz ndP hp hu (by show scope.names.lookup y≠_;rw[k];decide)]at q;exact q
 ·exact e0.hok.fresh (d9 (x.above y c (cU h)))
 ·unfold start;show _=N.length;rw[aK,ah,List.length_replicate];lia
theorem MS {CX:CXT}{P:Program}{w:World}{K:gK}{mg:gG}{base:Heap}{k:Nat}{f:Addr}{name qual:Str}{params:Arguments}{body:List Stmt}{scope:Scope}{dV kV doc pm cdv ct oc:gL}{an od:gJ Addr}
  {osl:Array (gJ gL)} {N ps:List Str} {sp:Sp} (lk:K.lookup f=My ⟨oc,od,.func (PySem.W.fnOf name qual params body scope dV kV doc pm an cdv ct),osl⟩) (hcd:PySem.W.codeIn K cdv qual=U6) (S:il N ps scope)
  (len:∀ vs H Q E,sp vs H Q E->vs.length=ps.length)
  (hbody:∀ (A:Around) (outer:List Env) (s:gM) (H:Hp) (vs:List V) (Q:VK) (E:XK),jI k (A.deeper (envOfC qual scope s.heap.objs.size f cdv))->sp vs H Q E ->
   ∃ t,PSs (qt CX P w K mg base N qual scope f cdv A outer s H E) body t/\t {nx:=λ _ H'=>Q .non H',rt:=Q} (start N vs) H) :
  pg P w K mg base CX (k+1) f (PySem.W.fnOf name qual params body scope dV kV doc pm an cdv ct) ps sp:=by
 refine⟨len,λ A outer s H args us vs Q E hr e0 hb r hsp=>?_⟩;have hl:=len _ _ _ _ hsp;have KX:K.In s.heap:=e0.mod.kin.keeps λ b o e=>(e0.bs b o e).1;have lim:s.heap.NoLimit:=e0.mod.nolimit.keeps λ b o e=>(e0.bs b o e).1;have hkind:∀ y∈ps.zip us,scope.names.lookup y.1=My .local\/(scope.names.lookup y.1=My .cell/\((cellsFrom (s.heap.objs.size+1) scope.names []).lookup y.1).isSome=U6):=λ⟨n,v⟩ hy=>by
  rcases S.par n (eS hy).1 with q | q
  ·exact .inl q
  ·exact .inr ⟨q,fb _ _ _ (.inl q)⟩
 refine codeAny_call_function hr.depth (KX _ _ lk) rfl S.co S.gen rfl (PySem.W.codeRec_of KX hcd) (hb _ _ _ _ ?_);refine wpAny_newFunctionEnv_cells S.kind hkind λ env he s1 x=>?_;subst he;refine⟨lim.keeps x.toInCall.keep,codeAny_func ?_⟩;obtain⟨t,ht,hq⟩:=hbody A outer s H vs Q E (hr.deeper _) hsp;have I:Inv (qt CX P w K mg base N qual scope f cdv A outer s H E) [] (start N vs) H s1:=zA S hr.hd e0 hl r x;refine dh (ht [] s1 (start N vs) H _ I hq) (λ fl s' hs=>?_) λ e s' hs=>hs;have fin:∀ {σ':St} {H':Hp} {v:V} {u:gL},Inv (qt CX P w K mg base N qual scope f cdv A outer s H E) [] σ' H' s'->RelV v u->Q v H'->CE outer P w H s Q u s' :=
  λ{σ' H' v u} J rv q=>⟨v,H',J.os,J.bare,J.base,J.hok,rv,q⟩
 cases fl with
 | ret u =>obtain⟨v,σ',H',J,rv,q⟩:=hs;exact fin J rv q
 | next =>obtain⟨σ',H',J,q⟩:=hs;exact fin (v:=V.non) (u:=Value.none) J rfl q
 | brk =>obtain⟨_,_,_,q⟩:=hs;exact False.elim q
 | cont =>obtain⟨_,_,_,q⟩:=hs;exact False.elim q
section
variable {X:Cx}{x:Str}{p pos:Pos}{e:Expr}{es:List Expr}{t:TA}{id T:String}{r:List V->Hp->VK->Prop}
def tCB (r:List V->Hp->VK->Prop)(t:TA):TE:=λ σ H Q=>t σ H λ vs H1=>r vs H1 Q
theorem kD (hc:jy X (.builtin id) r)(hg:Gl X x)(hm:X.mg x=U5)(hv:bootBuiltins x=My (.builtin id))(ha:PA X (e::es) t)(hn:x≠"__name__":=by decide)(hdb:(x==("__debug__":Str))=U7:=by decide)
  (he:starEach (e::es) X.env=(U7,eval e X.env)::starEach es X.env:=by rfl) (hpl:(backTo pos (starEach es X.env)).any (·.1)=U7:=by rfl):PE X (.Call (.Name x p) (e::es) [] pos) (tCB r t):=by
 intro pins s σ H Q I h;refine eU (uG I hg hm hv ?_ hn hdb);exact PyProof.Rows.callWith_builtin1 (thn (ha pos pins s σ H _ I h) λ us s1 ⟨vs,H1,I1,r1,q1⟩=>hc pins s1 σ H1 vs us Q I1 r1 q1) he hpl
theorem kW (hc:jy X (.type T) r)(hg:Gl X x)(hm:X.mg x=U5)(hv:bootBuiltins x=My (.type T))(ha:PA X (e::es) t)(hn:x≠"__name__":=by decide)(hdb:(x==("__debug__":Str))=U7:=by decide)
  (he:starEach (e::es) X.env=(U7,eval e X.env)::starEach es X.env:=by rfl) (hpl:(backTo pos (starEach es X.env)).any (·.1)=U7:=by rfl):PE X (.Call (.Name x p) (e::es) [] pos) (tCB r t):=by
 intro pins s σ H Q I h;refine eU (uG I hg hm hv ?_ hn hdb);exact cW (thn (ha pos pins s σ H _ I h) λ us s1 ⟨vs,H1,I1,r1,q1⟩=>hc pins s1 σ H1 vs us Q I1 r1 q1) he hpl
end
end L2
namespace HT
open PySem PyProof.Rows
def lexLt:List Int->List Int->Bool
 | [],[]=>U7
 | [],_::_=>U6
 | _::_,[]=>U7
 | x::xs,y::ys=>if x=y then lexLt xs ys else decide (x<y)
theorem Dv (x y:Int)(xs ys:List Int):lexLt (x::xs) (y::ys)=if x=y then lexLt xs ys else decide (x<y):=rfl
theorem yM:lexLt [] []=U7:=rfl
theorem w6 (y:Int)(ys:List Int):lexLt [] (y::ys)=U6:=rfl
theorem w9 (x:Int)(xs:List Int):lexLt (x::xs) []=U7:=rfl
theorem Ho (A:Around)(s:gM)(a:Int)(t:Tok)(c:Int)(u:Tok):∃ e,SeqAt.EqAt A s (.int a t) (.int c u) e/\(e=U6↔a=c) :=
 ⟨(a==c),SeqAt.EqAt.int_int a t c u,by simp⟩
theorem Hq (A:Around)(s:gM)(a:Int)(t:Tok)(c:Int)(u:Tok)(prog:Program)(w:World)(E:gH)(Q:gH)(h:Q (.bool (decide (a<c))) s) :
  wpAny (model prog w) A (richCompare .Lt (.int a t) (.int c u)) Q E s :=
 (PyProof.Rows.lt_int h:wpAny (model prog w) A (compareOp .Lt (.int a t) (.int c u)) Q E s)
section
open PySem.SeqAt
open PySem.AutoSeq1 (wpAny_loadPart')
open PySem.MeetsSeq PySem.MeetsSeq2 PySem.MeetsSeq3
theorem yN (l b:Addr)(items items2:Array gL)(n n2:Nat)(dd dd2:gJ Addr)(sl sl2:Array (gJ gL))(ns ms:List Int)(hi:IntsAre items.toList ns)(hj:IntsAre items2.toList ms) :
  Meets (Builtin.«tuple.__lt__» ⟨[.ref l,.ref b],[]⟩)
   (λ _ R s=>s.heap.get? l=My {cls:=.type "tuple",dict:=dd,data:=.seq items n,slots:=sl}/\s.heap.get? b=My {cls:=.type "tuple",dict:=dd2,data:=.seq items2 n2,slots:=sl2} /\
    R (.ok (.ret (.bool (lexLt ns ms)))) s) :=
 .of_wp λ prog w A R s h=>by
  obtain⟨hp,g,d,tk,os⟩:=s;obtain⟨hl,hb,h⟩:=h;have f2:=AutoSeq1.sub_tuple_tuple;have z1:items.size=ns.length:=by rw[<-hi.length];simp
  have z2:items2.size=ms.length:=by rw[<-hj.length];simp
  wp_walk using wpAny_loadPart' hl,wpAny_loadPart' hb,wpAny_forIn_list _ (λ rest b s'=>b.1=U5/\s'=⟨hp,g,d,tk,os⟩/\∃ (vs ws:List gL) (ns' ms':List Int),rest=vs.zip ws /\
   IntsAre vs ns'/\IntsAre ws ms'/\ns'.length+items2.size=ms'.length+items.size/\R (.ok (.ret (.bool (lexLt ns' ms')))) ⟨hp,g,d,tk,os⟩) _
  case turn =>
   rintro⟨y,x⟩ rest b s' ⟨hb',rfl,vs,ws,ns',ms',hz,hvi,hwi,hlen,hR⟩;cases hvi with
   | nil=>rw[List.zip_nil_left]at hz;cases hz
   | cons a t hvi' =>
    cases hwi with
    | nil=>rw[List.zip_nil_right]at hz;cases hz
    | cons c u hwi' =>
     rw[fP]at hz;injection hz with hyx hrest;injection hyx with hy hx;subst hy hx;rw[Dv]at hR;simp only[bf]at hlen;obtain⟨e,he,hiff⟩:=Ho A.in1 ⟨hp,g,d,tk,os⟩ a t c u;refine ae (he prog w _ _ ?_);cases e with
     | true =>
      rw[ai (hiff.mp rfl)]at hR
      wp_walk
      exact⟨rfl,rfl,_,_,_,_,hrest,hvi',hwi',by lia,hR⟩
     | false =>
      rw[au (λ q=>absurd (hiff.mpr q) ax)]at hR;have hri:=Hq A.in1 ⟨hp,g,d,tk,os⟩ a t c u prog w
      wp_walk using hri
      exact⟨_,rfl,by simpa using hR⟩
  case fin =>
   rintro⟨b1,b2⟩ s' ⟨hb',rfl,vs,ws,ns',ms',hz,hvi,hwi,hlen,hR⟩;simp only at hb';subst hb';have hv:lexLt ns' ms'=decide (items.size<items2.size):=by
    cases hvi with
    | nil =>
     cases hwi with
     | nil =>simp only[cM]at hlen;rw[yM];exact(decide_eq_false (by lia)).symm
     | cons c u hw =>simp only[cM,bf]at hlen;rw[w6];exact(decide_eq_true (by lia)).symm
    | cons a t hv =>
     cases hwi with
     | nil =>simp only[cM,bf]at hlen;rw[w9];exact(decide_eq_false (by lia)).symm
     | cons c u hw =>rw[fP]at hz;cases hz
   rw[hv]at hR
   wp_walk
   exact⟨_,rfl,by simpa [Builtin.Tuple.tupleCompareSizes] using hR⟩
  case h =>exact⟨rfl,rfl,items.toList,items2.toList,ns,ms,rfl,hi,hj,by lia,h⟩
end
section
variable {prog:Program}{w:World}{A:Around}{E:gH}{s:gM}
theorem Dw {l b:Addr}{items items2:Array gL}{ns ms:List Int}{Q:gH}(hl:IsTup s.heap l items)(hb:IsTup s.heap b items2)(hi:IntsAre items.toList ns)(hj:IntsAre items2.toList ms)
  (hu:A.units<cLine) (h:Q (.bool (lexLt ns ms)) s):wpAny (model prog w) A (compareOp .Lt (.ref l) (.ref b)) Q E s:=by
 obtain⟨⟨cls,dd,data,sl⟩,ho,hc,n,hd⟩:=id hl;obtain⟨⟨cls2,dd2,data2,sl2⟩,ho2,hc2,n2,hd2⟩:=id hb;simp only at hc hd hc2 hd2;subst hc hd hc2 hd2;exact richCompare_meets_room (op:=.Lt) ⟨_,ho,rfl⟩ ⟨_,ho2,rfl⟩ PySem.F.slot_tuple_lt PySem.F.entry_tuple_lt (PySem.F.args_tuple_lt_2 _ _) (yN l b items items2 n n2 dd dd2 sl sl2 ns ms hi hj)
  ⟨ho,ho2,show Value.bool (lexLt ns ms)≠Value.notImplemented/\Q (.bool (lexLt ns ms)) s from ⟨(λ x=>nomatch x),h⟩⟩ hu
theorem KA {t b:Addr}{vs ws:List gL}{Q:gH}(ht:IsTup s.heap t vs.toArray)(hb:IsTup s.heap b ws.toArray)(hv:vs≠[])
  (h1:ws=[]->Q (.ref t) s) (h2:ws≠[]->Q (.ref s.heap.objs.size) {s with heap:=s.heap.push {cls:=.type "tuple",data:=.seq (vs++ws).toArray}})
  (hsz:vs.length+ws.length<=sizeLine):wpAny (model prog w) A (binaryOp .Add (.ref t) (.ref b)) Q E s:=by
 obtain⟨⟨cls,dd,data,sl⟩,ho,hc,n,hd⟩:=id ht;obtain⟨⟨cls2,dd2,data2,sl2⟩,ho2,hc2,n2,hd2⟩:=id hb;simp only at hc hd hc2 hd2;subst hc hd hc2 hd2;have e:vs.toArray++ws.toArray=(vs++ws).toArray:=by simp
 by_cases hw:ws=[]
 ·exact concat_meets ⟨_,ho,rfl⟩ ⟨_,ho2,rfl⟩ noFill_tuple_add seq_tuple_add fc eY (eO _ _)
   (tuple_addW1 t b vs.toArray ws.toArray n n2 dd dd2 sl sl2 (by simpa using hv) (by simp[hw])) ⟨ho,ho2,h1 hw⟩
 ·refine concat_meets ⟨_,ho,rfl⟩ ⟨_,ho2,rfl⟩ noFill_tuple_add seq_tuple_add fc eY (eO _ _)
   (tuple_addW2 t b vs.toArray ws.toArray n n2 dd dd2 sl sl2 (by simpa using hv) (by simpa using hw) (by rw[ar,ar];exact hsz)) ⟨ho,ho2,?_⟩
  rw[e];exact h2 hw
def sIx (n d:Nat):gJ Int->Nat
 | none=>d
 | some v=>if v<0 then (v+(n:Int)).toNat else min v.toNat n
theorem w_ (n d:Nat):sIx n d U5=d:=rfl
theorem og (n d k:Nat):sIx n d (My (k:Int))=min k n:=by show(if (k:Int)<0 then ((k:Int)+(n:Int)).toNat else min (k:Int).toNat n)=min k n;rw[au (by lia),cg]
theorem N8 (n d:Nat)(hd:d<=n)(o:gJ Int):sIx n d o<=n:=by
 cases o with
 | none=>exact hd
 | some v =>
  show(if v<0 then (v+(n:Int)).toNat else min v.toNat n)<=n;by_cases hv:v<0
  ·rw[ai hv];lia
  ·rw[au hv];exact Nat.min_le_right _ _
theorem EM (v:Int)(n d:Nat):(if v<0 then max (v+(n:Int)) 0 else min v (n:Int))=((sIx n d (My v):Nat):Int):=by
 show(if v<0 then max (v+(n:Int)) 0 else min v (n:Int))=(((if v<0 then (v+(n:Int)).toNat else min v.toNat n):Nat):Int);by_cases hv:v<0
 ·simp only[ai hv];lia
 ·simp only[au hv];lia
theorem Dx (lo hi:gJ Int)(n:Nat):Builtin.Slice.sliceAdjust lo hi 1 (n:Int)=(((sIx n 0 lo:Nat):Int),((sIx n n hi:Nat):Int)):=by
 have h1:¬ ((1:Int)<0):=by lia
 unfold Builtin.Slice.sliceAdjust;simp only[h1,cn];refine gz ?_ ?_
 ·cases lo with
  | none=>rfl
  | some v=>exact EM v n 0
 ·cases hi with
  | none=>rfl
  | some v=>exact EM v n n
theorem Dy (i j:Nat):Builtin.Slice.slicePlaces (i:Int) (j:Int) 1=j-i:=by
 unfold Builtin.Slice.slicePlaces;have h1:(1:Int)>0:=by lia
 simp only[h1,dJ,Int.ediv_one];split<;>lia
theorem nJ {v:gL}{o:gJ Int}{Q:gJ Int->gM->Prop}(p:IsPart v o)(h:Q o s):wpAny (model prog w) A (Builtin.Slice.slicePartIndex v) Q E s:=by
 cases p with
 | none=>exact slicePart_none h
 | int i t=>exact slicePart_int h
theorem oO {sl:Addr}{vl vu:gL}{lo hi:gJ Int}{n:Nat}{Q:Int×Int×Nat->gM->Prop}(hs:s.heap.IsSliceOf sl vl vu .none)(pl:IsPart vl lo)(pu:IsPart vu hi)
  (h:Q (((sIx n 0 lo:Nat):Int),1,sIx n n hi-sIx n 0 lo) s):wpAny (model prog w) A (Builtin.Slice.sliceApplied (.ref sl) (pure (n:Int))) Q E s:=by
 obtain⟨os,hos,hcs,hds⟩:=id hs;unfold Builtin.Slice.sliceApplied Builtin.Slice.sliceFields;refine ae (ae (bV hos hds (x:=vl) rfl (ae (bV hos hds (x:=vu) rfl (ae (bV hos hds (x:=.none) rfl (af ?_)))))));refine ae (slicePart_none ?_);show wpAny _ _ (if ((1:Int)==0)=U6 then _ else _) _ _ s;rw[au (by decide)];refine ae (nJ pl (ae (nJ pu (ae (af ?_)))));show wpAny _ _ (match Builtin.Slice.sliceAdjust lo hi 1 (n:Int) with | (lo,hi)=>pure (lo,(1:Int),Builtin.Slice.slicePlaces lo hi 1)) _ _ s;rw[Dx lo hi n];show wpAny _ _ (pure (((sIx n 0 lo:Nat):Int),(1:Int),Builtin.Slice.slicePlaces ((sIx n 0 lo:Nat):Int) ((sIx n n hi:Nat):Int) 1)) _ _ s;rw[Dy];exact af h
theorem Hr (xs:Array gL)(i k:Nat):((U8 k).filterMap λ(m:Nat)=>xs[((i:Int)+(m:Int)*1).toNat]?).toArray=((xs.toList.drop i).take k).toArray:=by
 have e:(λ(m:Nat)=>xs[((i:Int)+(m:Int)*1).toNat]?)=λ m=>xs[i+m]?:=by
  funext m;have:((i:Int)+(m:Int)*1).toNat=i+m:=by lia
  rw[this]
 rw[e];have:=pick_run xs i k;rw[List.filterMap_map]at this;have e2:((λ x=>xs[x]?)∘λ x=>i+x)=λ m=>xs[i+m]?:=rfl;rw[e2]at this;rw[this]
theorem tf {t sl:Addr}{items:Array gL}{vl vu:gL}{lo hi:gJ Int}{Q:gH}(ht:IsTup s.heap t items)(hs:s.heap.IsSliceOf sl vl vu .none)(pl:IsPart vl lo)(pu:IsPart vu hi)
  (hw:¬ (sIx items.size 0 lo=0/\sIx items.size items.size hi=items.size))
  (h:Q (.ref s.heap.objs.size) {s with heap:=s.heap.push {cls:=.type "tuple",data:=.seq ((items.toList.drop (sIx items.size 0 lo)).take (sIx items.size items.size hi-sIx items.size 0 lo)).toArray}})
  (hsz:items.size<=sizeLine):wpAny (model prog w) A (getItem (.ref t) (.ref sl)) Q E s:=by
 have htake:sizeOk (.seq ((items.toList.drop (sIx items.size 0 lo)).take (sIx items.size items.size hi-sIx items.size 0 lo)).toArray):=by show((items.toList.drop (sIx items.size 0 lo)).take (sIx items.size items.size hi-sIx items.size 0 lo)).toArray.size<=sizeLine;rw[ar,bX,cw,bA];lia (config:={})
 have hj:sIx items.size items.size hi<=items.size:=N8 _ _ (aw _) hi;obtain⟨os,hos,hcs,hds⟩:=id hs;have hTs:s.TypeIs (.ref sl) "slice":=⟨os,hos,hcs⟩;unfold getItem;try with_reducible refine bQ ?_
 first | refine ae (af ?_) | skip
 refine ae (fW ht.typeIs (by decide) ?_);refine ae (bP (name:=Str.ofString "__getitem__") ht.typeIs aY
  (bY aY ht.typeIs entry_tuple_getitem ?_ (args_tuple_getitem _ _)))
 show wpAny _ _ (Builtin.Tuple.tupleItemsOf (.ref t)>>=_) _ _ s;refine ae (tupleItemsOf_ ht ?_);refine ae (fe hTs ?_);rw[ai (by decide)];refine ae (oO hs pl pu ?_);have hno:¬ ((((sIx items.size 0 lo:Nat):Int)==0&&(1:Int)==1&&(sIx items.size items.size hi-sIx items.size 0 lo)==items.size)=U6):=by intro q;rw[aP,aP]at q;have q1:((sIx items.size 0 lo:Nat):Int)=0:=eq_of_beq q.1.1;have q2:sIx items.size items.size hi-sIx items.size 0 lo=items.size:=eq_of_beq q.2;exact hw ⟨by lia (config:={}),by lia (config:={})⟩
 show wpAny _ _ (if (((sIx items.size 0 lo:Nat):Int)==0&&(1:Int)==1&&(sIx items.size items.size hi-sIx items.size 0 lo)==items.size)=U6 then _ else _) _ _ s;rw[au hno,Hr];first
  | exact ae (m:=Builtin.Tuple.tupleExact _) (bw (af ⟨_,rfl,af h⟩) htake)
  | exact ae (m:=Builtin.Tuple.tupleExact _) (bw (ae (af (af ⟨_,rfl,af h⟩))) htake)
  | exact ae (ae (m:=Builtin.Tuple.tupleExact _) (bw (af (af ⟨_,rfl,af h⟩)) htake))
  | exact ae (ae (m:=Builtin.Tuple.tupleExact _) (bw (af ⟨_,rfl,af h⟩) htake))
end
end HT
namespace L2
open PySem PySem.Spec PyProof.Rows
abbrev TO:=St->Hp->(gJ Int->Hp->Prop)->Prop
def PO (X:Cx)(e:gJ Expr)(t:TO):Prop :=
 ∀ (pins:gO) (s:gM) (σ:St) (H:Hp) (Q:gJ Int->Hp->Prop),Inv X pins σ H s->t σ H Q ->
  wpAny (model X.prog X.w) X.A (evalPart e X.env) (λ u s'=>∃ o H',Inv X pins σ H' s'/\IsPart u o/\Q o H') X.xe s
def KC:TO:=λ _ H Q=>Q U5 H
def QJ (t:TE):TO:=λ σ H Q=>t σ H λ x H1=>∃ i,x=.int i/\Q (My i) H1
theorem intsAre_of {ns:List Int}:∀ {us:List gL},Vals (ns.map V.int) us->IntsAre us ns:=by
 induction ns with
 | nil=>intro us r;rw[eo]at r;cases r;exact .nil
 | cons n ns ih =>
  intro us r;rw[aI]at r;cases r with
  | cons r1 r2 =>obtain⟨t,e⟩:=r1;subst e;exact .cons n t (ih r2)
section
variable {X:Cx}{e:Expr}{te:TE}{lo hi:gJ Expr}{tl th:TO}{pos p2:Pos}
theorem Ar:PO X U5 KC:=by intro pins s σ H Q I h;rw[evalPart_none];exact af ⟨U5,H,I,.none,h⟩
theorem As (h:PE X e te):PO X (My e) (QJ te):=by intro pins s σ H Q I hw;rw[evalPart_some];refine thn (h pins s σ H _ I hw) λ u s1 ⟨x,H1,I1,r1,q1⟩=>?_;obtain⟨i,rfl,q⟩:=q1;obtain⟨t,rfl⟩:=r1;exact⟨My i,H1,I1,.int i t,q⟩
def SlR (X:Cx)(r:V->gJ Int->gJ Int->Hp->VK->Prop):Prop :=
 ∀ (pins:gO) (s:gM) (σ:St) (H:Hp) (x:V) (v vl vu:gL) (lo hi:gJ Int) (sl:Addr) (Q:VK),Inv X pins σ H s->RelV x v->s.heap.IsSliceOf sl vl vu .none->IsPart vl lo->IsPart vu hi->r x lo hi H Q ->
  ∃ T id,typeLookup (.type T) "__getitem__"=pure (My (.builtin id))/\s.TypeIs v T/\wpAny (model X.prog X.w) X.A (getItem v (.ref sl)) (EP X pins σ Q) X.xe s
theorem SlR.or {r r':V->gJ Int->gJ Int->Hp->VK->Prop}(h:SlR X r)(h':SlR X r'):SlR X (λ x lo hi H Q=>r x lo hi H Q\/r' x lo hi H Q):=by
 intro pins s σ H x v vl vu lo hi sl Q I rx hs pl pu q;rcases q with q | q
 ·exact h pins s σ H x v vl vu lo hi sl Q I rx hs pl pu q
 ·exact h' pins s σ H x v vl vu lo hi sl Q I rx hs pl pu q
def tSl (r:V->gJ Int->gJ Int->Hp->VK->Prop)(te:TE)(tl th:TO):TE:=λ σ H Q=>te σ H λ x H1=>tl σ H1 λ l H2=>th σ H2 λ u H3=>r x l u H3 Q
theorem xa {r:V->gJ Int->gJ Int->Hp->VK->Prop}(hr:SlR X r)(he:PE X e te)(hl:PO X lo tl)(hu:PO X hi th):PE X (.Subscript e (.Slice lo hi U5 p2) pos) (tSl r te tl th):=by intro pins s σ H Q I h;refine Subscript_ (thn (he pins s σ H _ I h) λ v s1 ⟨x,H1,I1,r1,q1⟩=>?_);refine wpAny_Slice (thn (hl pins s1 σ H1 _ I1 q1) λ vl s2 ⟨l,H2,I2,pl,q2⟩=>thn (hu pins s2 σ H2 _ I2 q2) λ vu s3 ⟨u,H3,I3,pu,q3⟩=>?_);rw[evalPart_none];refine af ?_;have I4:Inv X pins σ H3 {s3 with heap:=s3.heap.push {cls:=.type "slice",data:=.fields #[vl,vu,.none]}}:=I3.kept (t':=s3.toks) λ b ob q=>ag _ q;obtain⟨T,id,hT,ht,hg⟩:=hr pins {s3 with heap:=s3.heap.push {cls:=.type "slice",data:=.fields #[vl,vu,.none]}} σ H3 x v vl vu l u s3.heap.objs.size Q I4 r1 (Heap.IsSliceOf.new ..) pl pu q3;show wpAny (model X.prog X.w) X.A (subscriptTail e (.Slice lo hi U5 p2) v (.ref s3.heap.objs.size)) (EP X pins σ Q) X.xe {s3 with heap:=s3.heap.push {cls:=.type "slice",data:=.fields #[vl,vu,.none]}};exact tail_any (ops:=[.ref s3.heap.objs.size,v]) ht hT hg (by with_unfolding_all rfl)
def vP (xs:List V)(lo hi:gJ Int):List V:=(xs.drop (HT.sIx xs.length 0 lo)).take (HT.sIx xs.length xs.length hi-HT.sIx xs.length 0 lo)
theorem vh (xs:List V)(lo hi:gJ Int):(vP xs lo hi).length<=xs.length:=by unfold vP;rw[bX,cw];lia
def Td (K:gK):V->gJ Int->gJ Int->Hp->VK->Prop:=λ x lo hi H Q=>∃ a xs,x=.ref a/\SqT K H a xs /\
 ¬ (HT.sIx xs.length 0 lo=0/\HT.sIx xs.length xs.length hi=xs.length)/\∀ p,H p=U5->Q (.ref p) (upd H p (.tup (vP xs lo hi)))
theorem Dz:SlR X (Td X.K):=by
 intro pins s σ H x v vl vu lo hi sl Q I rx hs pl pu h;obtain⟨a,xs,rfl,hx,hw,q⟩:=h;cases rx;obtain⟨its,r,ht,hz⟩:=I.tuple hx;have hlen:its.toArray.size=xs.length:=by rw[ar];exact r.length.symm
 refine⟨"tuple",_,aY.lookup,ht.typeIs,?_⟩;refine HT.tf ht hs pl pu (by rw[hlen];exact hw) ?_ (by rw[hlen];exact hz);rw[hlen];refine⟨.ref s.heap.objs.size,_,I.laid (t':=s.toks) (o:=.tup (vP xs lo hi)) (λ b ob q=>ag _ q) (aw _) ?_,rfl,q _ (I.hok.fresh (aw _))⟩;exact⟨⟨bD (vh xs lo hi) hz,_,aF _ rfl,rfl⟩,_,(r.drop (HT.sIx xs.length 0 lo)).take (HT.sIx xs.length xs.length hi-HT.sIx xs.length 0 lo),IsTup.new _ _⟩
def Te (K:gK):R2:=λ x y H Q=>∃ a b ns ms,x=.ref a/\y=.ref b/\SqT K H a (ns.map V.int)/\SqT K H b (ms.map V.int)/\Q (.bl (HT.lexLt ns ms)) H
theorem N9 (hu:X.A.units<cLine):OpR X (compareOp .Lt) (Te X.K):=by intro pins s σ H x y v u Q I rx ry h;obtain⟨a,b,ns,ms,rfl,rfl,ha,hb,q⟩:=h;cases rx;cases ry;obtain⟨its,r1,p1,_⟩:=I.tuple ha;obtain⟨its2,r2,p2,_⟩:=I.tuple hb;have i1:IntsAre its.toArray.toList ns:=intsAre_of r1;have i2:IntsAre its2.toArray.toList ms:=intsAre_of r2;exact HT.Dw p1 p2 i1 i2 hu ⟨.bl (HT.lexLt ns ms),H,I,rfl,q⟩
def QK (K:gK):R2:=λ x y H Q=>∃ a b xs ys,x=.ref a/\y=.ref b/\SqT K H a xs/\SqT K H b ys/\xs≠[]/\xs.length+ys.length<=sizeLine /\
 (ys=[]->Q (.ref a) H)/\(ys≠[]->∀ p,H p=U5->Q (.ref p) (upd H p (.tup (xs++ys))))
theorem Vals.Au {xs:List V}{us:List gL}(r:Vals xs us):us=[]↔xs=[]:=by
 cases r with
 | nil=>simp
 | cons _ _=>simp
theorem KD:OpR X (binaryOp .Add) (QK X.K):=by intro pins s σ H x y v u Q I rx ry h;obtain⟨a,b,xs,ys,rfl,rfl,ha,hb,hx,hz,q1,q2⟩:=h;cases rx;cases ry;obtain⟨its,r1,p1,_⟩:=I.tuple ha;obtain⟨its2,r2,p2,_⟩:=I.tuple hb;refine HT.KA p1 p2 (λ z=>hx (r1.Au.mp z)) (λ z=>⟨.ref a,H,I,rfl,q1 (r2.Au.mp z)⟩) (λ z=>?_) (by rw[<-r1.length,<-r2.length];exact hz);refine⟨.ref s.heap.objs.size,_,I.laid (t':=s.toks) (o:=.tup (xs++ys)) (λ b ob q=>ag _ q) (aw _) ?_,rfl,q2 (λ w=>z (r2.Au.mpr w)) _ (I.hok.fresh (aw _))⟩;exact⟨⟨by rw[aK];exact hz,_,aF _ rfl,rfl⟩,_,r1.append r2,IsTup.new _ _⟩
end
def ixN (n:Nat)(i:Int):gJ Nat:=if 0<=i then (if i<n then My i.toNat else U5) else if -(n:Int)<=i then My (i+n).toNat else U5
def atI {α:Type}(xs:List α)(i:Int):gJ α:=(ixN xs.length i).bind λ j=>xs[j]?
theorem EN {n:Nat}{i:Int}{j:Nat}(h:ixN n i=My j):seqIndex? i n=My j/\j<n/\-(n:Int)<=i/\i<n:=by
 unfold ixN at h;by_cases h0:0<=i
 ·rw[ai h0]at h
  by_cases h1:i<n
  ·rw[ai h1]at h;have e:i.toNat=j:=ao h;exact⟨by rw[seqIndex_of h0 h1,e],by lia,by lia,h1⟩
  ·rw[au h1]at h;cases h
 ·rw[au h0]at h
  by_cases h1:-(n:Int)<=i
  ·rw[ai h1]at h;have e:(i+n).toNat=j:=ao h;exact⟨by rw[seqIndex_neg (by lia) h1,e],by lia,h1,by lia⟩
  ·rw[au h1]at h;cases h
theorem EO {α:Type}{xs:List α}{i:Int}{v:α}(h:atI xs i=My v):∃ j,seqIndex? i xs.length=My j/\xs[j]?=My v/\j<xs.length/\-(xs.length:Int)<=i/\i<xs.length:=by
 unfold atI at h;cases e:ixN xs.length i with
 | none=>rw[e]at h;cases h
 | some j =>rw[e]at h;obtain⟨h1,h2,h3,h4⟩:=EN e;exact⟨j,h1,h,h2,h3,h4⟩
theorem lJ {α:Type}{xs:List α}{j:Nat}{v:α}(h:xs[j]?=My v):atI xs (j:Int)=My v:=by
 have hj:j<xs.length:=(aN.mp h).1;have e:ixN xs.length (j:Int)=My j:=by unfold ixN;rw[ai (by lia),ai (by lia)];simp
 unfold atI;rw[e];exact h
def Av (b:Expr):Prop:=∀ o i,subscripted b U7 o i=operate [o,i] (getItem o i)
def IxR (X:Cx)(r:R2):Prop :=
 ∀ (value slice:Expr) (pins:gO) (s:gM) (σ:St) (H:Hp) (x y:V) (v u:gL) (Q:VK),Inv X pins σ H s->RelV x v->RelV y u->r x y H Q ->
  subscripted slice U7 v u=operate [v,u] (getItem v u)->wpAny (model X.prog X.w) X.A (subscriptTail value slice v u) (EP X pins σ Q) X.xe s
def MtR (X:Cx)(id:String)(r:V->List V->Hp->VK->Prop):Prop :=
 ∀ (pins:gO) (s:gM) (σ:St) (H:Hp) (x:V) (xs:List V) (v:gL) (us:List gL) (Q:VK),Inv X pins σ H s->RelV x v->Vals xs us->r x xs H Q ->
  wpAny (model X.prog X.w) X.A (call (.builtin id) (v::us)) (EP X pins σ Q) X.xe s
section
variable {X:Cx}{a b:Expr}{ta tb:TE}{pos:Pos}
theorem mq {r:R2}(hr:IxR X r)(ha:PE X a ta)(hb:PE X b tb)(hs:Av b):PE X (.Subscript a b pos) (tOp r ta tb):=by intro pins s σ H Q I h;exact Subscript_ (NZ ha hb I h λ v u s2 x y H2 I2 rx ry q=>hr a b pins s2 σ H2 x y v u Q I2 rx ry q (hs _ _))
def oP (K:gK):R2:=λ x y H Q=>∃ p xs i v,x=.ref p/\y=.int i/\SqL K H p xs/\atI xs i=My v/\Q v H
def KG (K:gK):R2:=λ x y H Q=>∃ p xs i v,x=.ref p/\y=.int i/\SqT K H p xs/\atI xs i=My v/\Q v H
theorem kK:IxR X (oP X.K):=by
 intro value slice pins s σ H x y v u Q I rx ry h hs;obtain⟨p,xs,i,z,rfl,rfl,hq,he,q⟩:=h;cases rx;obtain⟨t,rfl⟩:=ry;obtain⟨its,r,pl,hz⟩:=I.list hq;obtain⟨j,h1,h2,h3,h4,h5⟩:=EO he;obtain⟨w,ew,rw'⟩:=r.get h2;have hl:=r.length;have hn:=uK;have fin:EP X pins σ Q w s:=⟨z,H,I,rw',q⟩;by_cases h0:0<=i
 ·have hj:i.toNat=j:=by
   rw[seqIndex_of h0 h5]at h1;exact ao h1
  exact item_listR pl.isList h0 (by lia) (by rw[hj];simpa using ew) fin hs
 ·have hj:(i+(its.toArray.size:Int)).toNat=j:=by
   rw[seqIndex_neg (by lia) h4]at h1;rw[ar,<-hl];exact ao h1
  exact subscriptTail_builtinR (x:=w) pl.isList.typeIs slot_list_getitem.lookup
   (wpAny_getItem_list_neg (Q:=λ r s'=>r=w/\EP X pins σ Q r s') pl.isList (by lia) (by rw[ar]<;>lia) (by lia) (by rw[hj];simpa using ew) ⟨rfl,fin⟩) hs
theorem xb:IxR X (KG X.K):=by
 intro value slice pins s σ H x y v u Q I rx ry h hs;obtain⟨p,xs,i,z,rfl,rfl,hq,he,q⟩:=h;cases rx;obtain⟨t,rfl⟩:=ry;obtain⟨its,r,pl,hz⟩:=I.tuple hq;obtain⟨j,h1,h2,h3,h4,h5⟩:=EO he;obtain⟨w,ew,rw'⟩:=r.get h2;have hl:=r.length;have hn:=uK;have fin:EP X pins σ Q w s:=⟨z,H,I,rw',q⟩;exact subscriptTail_builtinR (x:=w) pl.typeIs slot_tuple_getitem.lookup
  (getItem_tuple (j:=j) (Q:=λ r s'=>r=w/\EP X pins σ Q r s') pl (by lia) (by lia) (by rw[ar,<-hl];exact h1) (by simpa using ew) ⟨rfl,fin⟩) hs
theorem DA (its:List gL)(n j:Nat)(u:gL):Obj.mapSeq (·.setIfInBounds j u) {cls:=.type "list",data:=.seq its.toArray n}={cls:=.type "list",data:=.seq (its.set j u).toArray n}:=by simp[Obj.mapSeq]
theorem Inv.lst {pins:gO}{σ:St}{H:Hp}{s:gM}{p:Addr}{xs:List V}(I:Inv X pins σ H s)(h:H p=My (.lst xs)) :
  ∃ (its:List gL) (n:Nat),Vals xs its/\s.heap.get? p=My {cls:=.type "list",data:=.seq its.toArray n}/\xs.length<=sizeLine:=by
 obtain⟨z,its,n,r,e⟩:=I.hok p _ h;exact⟨its,n,r,e,z⟩
theorem Inv.N_ {pins:gO}{σ:St}{H:Hp}{s:gM}{p:Addr}{xs ys:List V}{its its':List gL}{n n':Nat}{f:Obj->Obj}(I:Inv X pins σ H s)(h:H p=My (.lst xs))
  (ho:s.heap.get? p=My {cls:=.type "list",data:=.seq its.toArray n}) (hf:f {cls:=.type "list",data:=.seq its.toArray n}={cls:=.type "list",data:=.seq its'.toArray n'}) (r:Vals ys its') (hz:ys.length<=sizeLine) (t:Nat) :
  Inv X pins σ (upd H p (.lst ys)) {s with heap:=s.heap.update p f,toks:=t}:=by
 have e:(s.heap.update p f).get? p=My {cls:=.type "list",data:=.seq its'.toArray n'}:=by rw[dz f ho (by rw[hf]<;>rfl),hf]
 refine I.write (x:=p) (e:=p) (by rw[h];trivial) (.inl rfl) (λ b u hb q=>(Heap.get?_update_other _ _ (aZ hb)).trans q) ⟨_,e⟩ ?_;exact⟨hz,its',n',r,e⟩
def QL:V->V->V->Hp->(Hp->Prop)->Prop:=λ o i v H Q=>∃ p xs k j,o=.ref p/\i=.int k/\H p=My (.lst xs)/\ixN xs.length k=My j/\Q (upd H p (.lst (xs.set j v)))
theorem set_list:QD X QL:=by
 intro pins s σ H o i v ov iv u Q I ro ri rv h;obtain⟨p,xs,k,j,rfl,rfl,hp,hj,q⟩:=h;cases ro;obtain⟨t,rfl⟩:=ri;obtain⟨its,n,r,ho,hz⟩:=I.lst hp;obtain⟨h1,h2,h3,h4⟩:=EN hj;have hl:=r.length;have hn:=uK;have I':Inv X pins σ (upd H p (.lst (xs.set j v))) {s with heap:=s.heap.update p (Obj.mapSeq (·.setIfInBounds j u))} :=
  I.N_ hp ho (DA its n j u) (r.set rv j) (by rw[List.length_set];exact hz) s.toks
 by_cases h0:0<=k
 ·have hk:k.toNat=j:=by
   rw[seqIndex_of h0 h4]at h1;exact ao h1
  exact PySem.W.ki_setAt ho h0 (by lia) (by rw[ar,<-hl];exact h4) (by rw[hk];exact⟨_,I',q⟩)
 ·have hk:(k+(its.toArray.size:Int)).toNat=j:=by
   rw[seqIndex_neg (by lia) h3]at h1;rw[ar,<-hl];exact ao h1
  exact PySem.W.ki_setBack ho (by lia) (by rw[ar,<-hl];exact h3) (by lia) (by rw[hk];exact⟨_,I',q⟩)
theorem Aw (lo hi:gJ Int)(n:Nat):(sliceBounds lo hi U5 n).1=((HT.sIx n 0 lo:Nat):Int)/\(sliceBounds lo hi U5 n).2.1=((HT.sIx n n hi:Nat):Int)/\(sliceBounds lo hi U5 n).2.2=1:=by
 refine⟨?_,?_,rfl⟩
 ·cases lo with
  | none=>simp[sliceBounds,HT.sIx]
  | some i =>
   simp only[sliceBounds,HT.sIx,Option.getD_none,show(1:Int)>0 by decide,dJ];by_cases h:i<0
   ·simp only[h,dJ]<;>lia
   ·simp only[h,cn]<;>lia
 ·cases hi with
  | none=>simp[sliceBounds,HT.sIx]
  | some i =>
   simp only[sliceBounds,HT.sIx,Option.getD_none,show(1:Int)>0 by decide,dJ];by_cases h:i<0
   ·simp only[h,dJ]<;>lia
   ·simp only[h,cn]<;>lia
theorem yO (its:List gL)(lo hi:gJ Int):slicePick its.toArray lo hi U5=((its.drop (HT.sIx its.length 0 lo)).take (HT.sIx its.length its.length hi-HT.sIx its.length 0 lo)).toArray:=by obtain⟨h1,h2,h3⟩:=Aw lo hi its.toArray.size;unfold slicePick;rw[h1,h2,h3];simp only[sliceRange_one,pick_run,ar]<;>rfl
def Tf (K:gK):V->gJ Int->gJ Int->Hp->VK->Prop:=λ x lo hi H Q=>∃ a xs,x=.ref a/\SqL K H a xs/\∀ p,H p=U5->Q (.ref p) (upd H p (.lst (vP xs lo hi)))
theorem SE:SlR X (Tf X.K):=by intro pins s σ H x v vl vu lo hi sl Q I rx hs pl pu h;obtain⟨a,xs,rfl,hx,q⟩:=h;cases rx;obtain⟨its,r,ht,hz⟩:=I.list hx;have hlen:=r.length;refine⟨"list",_,slot_list_getitem.lookup,ht.isList.typeIs,?_⟩;refine wpAny_getItem_list_slice ht.isList hs pl pu .none (by simp) ?_ (by rw[ar]<;>lia);rw[yO,<-hlen];refine⟨.ref s.heap.objs.size,_,I.laid (t':=s.toks) (o:=.lst (vP xs lo hi)) (λ b ob q=>ag _ q) (aw _) ?_,rfl,q _ (I.hok.fresh (aw _))⟩;exact⟨bD (vh xs lo hi) hz,_,0,(r.drop (HT.sIx xs.length 0 lo)).take (HT.sIx xs.length xs.length hi-HT.sIx xs.length 0 lo),aF _ rfl⟩
theorem lX:jy X (.builtin "len") (λ xs H Q=>∃ p ys,xs=[.ref p]/\(SqL X.K H p ys\/SqT X.K H p ys)/\Q (.int ys.length) H):=by
 intro pins s σ H xs us Q I r h;obtain⟨p,ys,rfl,hq,q⟩:=h;obtain⟨u,rfl,rx⟩:=vals1 r;cases rx;have hn:=uK;rcases hq with hq | hq
 ·obtain⟨its,r',pl,hz⟩:=I.list hq;have hlen:=r'.length;exact Calls.call_len_list pl.isList (by simp only[ar]<;>lia) ⟨.int ys.length,H,I.tok _,⟨s.toks+1,by rw[ar,hlen]⟩,q⟩
 ·obtain⟨its,r',pl,hz⟩:=I.tuple hq;have hlen:=r'.length;exact len_tuple pl (by simp only[ar]<;>lia) ⟨.int ys.length,H,I.tok _,⟨s.toks+1,by rw[ar,hlen]⟩,q⟩
theorem Ax:jy X (.type "list") (λ xs H Q=>∃ p ys,xs=[.ref p]/\(SqL X.K H p ys\/SqT X.K H p ys)/\∀ l,H l=U5->Q (.ref l) (upd H l (.lst ys))):=by
 intro pins s σ H xs us Q I r h;obtain⟨p,ys,rfl,hq,q⟩:=h;obtain⟨u,rfl,rx⟩:=vals1 r;cases rx;have fin:∀ (its:List gL),Vals ys its->ys.length<=sizeLine->∀ (h':Heap) (c':Nat),(∀ b o',s.heap.get? b=My o'->h'.get? b=My o') ->
   h'.get? s.heap.objs.size=My {cls:=.type "list",dict:=U5,data:=.seq its.toArray c',slots:=#[]}->EP X pins σ Q (.ref s.heap.objs.size) {s with heap:=h'}:=λ its r' hz h' c' kp e =>
  ⟨.ref s.heap.objs.size,_,I.laid (t':=s.toks) kp (aw _) (show jH X.prog X.w _ h' _ (.lst ys) from ⟨hz,its,c',r',e⟩),rfl,q _ (I.hok.fresh (aw _))⟩
 rcases hq with hq | hq
 ·obtain⟨its,r',pl,hz⟩:=I.list hq;have hlen:=r'.length;obtain⟨o,ho,hc,n,hd⟩:=pl.isList;exact call_list_seq p (.inl rfl) ho hc hd (λ h' c' kp e=>fin its r' hz h' c' kp e) (by simp only[ar]<;>lia)
 ·obtain⟨its,r',pl,hz⟩:=I.tuple hq;have hlen:=r'.length;obtain⟨o,ho,hc,n,hd⟩:=pl;exact call_list_seq p (.inr rfl) ho hc hd (λ h' c' kp e=>fin its r' hz h' c' kp e) (by simp only[ar]<;>lia)
theorem oD:jy X (.type "tuple") (λ xs H Q=>∃ p ys,xs=[.ref p]/\((SqL X.K H p ys/\∀ l,H l=U5->Q (.ref l) (upd H l (.tup ys)))\/(SqT X.K H p ys/\Q (.ref p) H))):=by
 intro pins s σ H xs us Q I r h;obtain⟨p,ys,rfl,h⟩:=h;obtain⟨u,rfl,rx⟩:=vals1 r;cases rx;rcases h with⟨hq,q⟩ | ⟨hq,q⟩
 ·obtain⟨its,r',pl,hz⟩:=I.list hq
  have hlen:=r'.length;refine call_tuple_list pl.isList (λ h' kp=>?_) (by simp only[ar]<;>lia);have I1:Inv X pins σ H {s with heap:=h'}:=I.kept (t':=s.toks) kp;have I2:Inv X pins σ (upd H h'.objs.size (.tup ys)) {s with heap:=h'.push {cls:=.type "tuple",data:=.seq its.toArray}} :=
   I1.laid (t':=s.toks) (λ b o e=>ag _ e) (aw _) (show jH X.prog X.w _ _ _ (.tup ys) from ⟨⟨hz,_,aF _ rfl,rfl⟩,its,r',IsTup.new _ _⟩)
  exact⟨.ref h'.objs.size,_,I2,rfl,q _ (I1.hok.fresh (aw _))⟩
 ·obtain⟨its,r',pl,hz⟩:=I.tuple hq;exact call_tuple_same pl ⟨.ref p,H,I,rfl,q⟩
def tyV (K:gK)(T:String)(x:V)(H:Hp):Prop:=match x with
 | .str _=>T="str"
 | .int _=>T="int"
 | .ref p=>(T="list"/\∃ xs,SqL K H p xs)\/(T="tuple"/\∃ o,K.lookup p=My o/\o.cls=.type "tuple"/\o.dict=U5) \/
   (T="dict"/\((∃ kvs,H p=My (.dK kvs))\/∃ kvs,H p=My (.dT kvs)))\/(T="set"/\∃ S n,H p=My (.set S n))
 | _=>False
theorem Oa {pins:gO}{σ:St}{H:Hp}{s:gM}{T:String}{x:V}{v:gL}(I:Inv X pins σ H s)(r:RelV x v)(ty:tyV X.K T x H) :
  s.TypeIs v T/\∀ a,v=.ref a->∃ ob,s.heap.get? a=My ob/\ob.dict=U5:=by
 cases x with
 | str z =>obtain⟨t,rfl⟩:=r;cases (show T="str" from ty);exact⟨typeIs_str s z t,λ _ e=>nomatch e⟩
 | int i =>obtain⟨t,rfl⟩:=r;cases (show T="int" from ty);exact⟨typeIs_int s i t,λ _ e=>nomatch e⟩
 | ref p =>
  cases r;rcases ty with⟨rfl,xs,hq⟩ | ⟨rfl,o,hk,hc,hd⟩ | ⟨rfl,hk⟩ | ⟨rfl,S,n,hk⟩
  ·obtain⟨its,_,pl,_⟩:=I.list hq;refine⟨pl.isList.typeIs,λ a e=>?_⟩;cases e;obtain⟨o,n,e,c,hd,_⟩:=pl;exact⟨o,e,hd⟩
  ·refine⟨⟨o,I.kIn p o hk,hc⟩,λ a e=>?_⟩;cases e;exact⟨o,I.kIn _ o hk,hd⟩
  ·have z:∃ o,s.heap.get? p=My o/\o.ExactDict:=by
    rcases hk with⟨kvs,hk⟩ | ⟨kvs,hk⟩
    ·obtain⟨_,_,_,_,o,_,_,e,ex,_⟩:=I.hok p _ hk;exact⟨o,e,ex⟩
    ·obtain⟨_,_,_,_,o,_,_,e,ex,_⟩:=I.hok p _ hk;exact⟨o,e,ex⟩
   obtain⟨o,e,ex⟩:=z;refine⟨⟨o,e,ex.1⟩,λ a e2=>?_⟩;cases e2;exact⟨o,e,ex.2.1⟩
  ·obtain⟨o,_,_,_,e,ex,_⟩:=I.hok p _ hk;refine⟨⟨o,e,ex.1⟩,λ a e2=>?_⟩;cases e2;exact⟨o,e,ex.2.1⟩
 | _=>exact False.elim ty
def tBM (K:gK)(T:String)(r:V->List V->Hp->VK->Prop)(to:TE)(t:TA):TE:=λ σ H Q=>to σ H λ x H1=>tyV K T x H1/\t σ H1 λ xs H2=>r x xs H2 Q
variable {o e:Expr}{es:List Expr}{to:TE}{t:TA}{name:Str}{apos cpos:Pos}{T id:String}{r:V->List V->Hp->VK->Prop}
theorem xc (pa:PlainAttrs T)(slot:Slot T name id)(hty:typeOf (.builtin id)=pure (.type "method_descriptor"))(hm:MtR X id r)(ho:PE X o to)(ha:PA X (e::es) t)
  (hbase:attributeBase o name X.env (eval o X.env)=eval o X.env:=by rfl)
  (hfew:((backTo cpos (starEach (e::es) X.env)).all (λ x=>!x.1)&&(backToKw cpos (keywordEach [] X.env)).all (λ x=>x.1.isSome)
   && decide ((e::es).length+([]:List Keyword).length+(if ([]:List Keyword).isEmpty then 0 else 1)<30))=U6:=by rfl)
  (hline:(apos.endLine==cpos.line)=U6:=by rfl) (hs:starEach (e::es) X.env=(U7,eval e X.env)::starEach es X.env:=by rfl) (hplain:(backTo cpos (starEach es X.env)).any (·.1)=U7:=by rfl) :
  PE X (.Call (.Attribute o name apos) (e::es) [] cpos) (tBM X.K T r to t):=by
 intro pins s σ H Q I h;refine wpAny_Call_method_late hbase hfew hline rfl (thn (ho pins s σ H _ I h) λ v s1 ⟨x,H1,I1,r1,ty,q1⟩=>?_);obtain⟨h1,h2⟩:=Oa I1 r1 ty;refine⟨T,id,pa,slot,hty,h1,h2,?_⟩;have hA:=ha cpos pins s1 σ H1 _ I1 q1;rw[hs]at hA ⊢;refine Calls.callWith_builtin (by show(U7 || (backTo cpos (starEach es X.env)).any (·.1))=U7;rw[hplain]<;>rfl) (Calls.evalArgs_plain ?_);exact thn hA λ us s2 ⟨vs,H2,I2,r2,q2⟩=>hm pins s2 σ H2 x vs v us Q I2 r1 r2 q2
end
def MtM (X:Cx)(id:String)(r:V->List V->Hp->VK->Prop):Prop :=
 ∀ (pins:gO) (s:gM) (σ:St) (H:Hp) (x:V) (xs:List V) (v:gL) (us:List gL) (Q:VK),Inv X pins σ H s->RelV x v->Vals xs us->r x xs H Q ->
  wpAny (model X.prog X.w) X.A (call (.builtin id) (v::us)) (EP X pins σ Q) X.xe s
theorem Vals.one:∀ {x:V} {us:List gL},Vals [x] us->∃ u,us=[u]/\RelV x u
 := by
 intro x us h;cases h with
 | cons r q=>cases q;exact⟨_,rfl,r⟩
theorem Vals.eraseIdx:∀ {xs:List V} {us:List gL} (i:Nat),Vals xs us->Vals (xs.eraseIdx i) (us.eraseIdx i)
 | _,_,_,.nil=>.nil
 | _,_,0,.cons _ t=>t
 | _,_,i+1,.cons r t=>.cons r (Vals.eraseIdx i t)
theorem Vals.rep {xs:List V}{us:List gL}(h:Vals xs us):∀ k:Nat,Vals (U9 k xs).flatten (U9 k us).flatten
 | 0=>.nil
 | k+1=>by rw[cV,cV,el,el];exact Vals.append h (Vals.rep h k)
theorem zB {α:Type}:∀ (l:List α) (i:Nat),(l.eraseIdx i).length<=l.length
 | [],_=>aw _
 | _::_,0=>gA _
 | _::r,i+1=>Nat.succ_le_succ (zB r i)
theorem foldl_rep (its:List gL):∀ (k:Nat) (acc:List gL),
  List.foldl (λ x1 x2=>x1++x2) acc.toArray (U9 k its.toArray)=(acc++(U9 k its).flatten).toArray
 | 0,acc=>by simp
 | k+1,acc=>by
  have e:acc.toArray++its.toArray=(acc++its).toArray:=by simp
  have e2:(acc++its)++(U9 k its).flatten=acc++(U9 (k+1) its).flatten:=by rw[cV,el,cy]
  rw[<-e2,<-foldl_rep its k (acc++its),<-e,cV,cu]
section
variable {X:Cx}{pins:gO}{σ:St}{H:Hp}{s:gM}{l b:Addr}{xs ys zs:List V}
theorem Inv.Ob {its its':List gL}{n:Nat}{f:Array gL->Array gL}{t':Nat}(I:Inv X pins σ H s)(hH:H l=My (.lst xs))
  (e:s.heap.get? l=My {cls:=.type "list",data:=.seq its.toArray n}) (hf:f its.toArray=its'.toArray) (hv:Vals ys its') (hz:ys.length<=sizeLine) :
  Inv X pins σ (upd H l (.lst ys)) {s with heap:=s.heap.update l (Obj.mapSeq f),toks:=t'}:=by
 have q:=PySem.IsL.update e f;rw[hf]at q;refine I.write (x:=l) (e:=l) (by rw[hH];exact trivial) (.inl rfl) (λ b' u hb hu=>(Heap.get?_update_other s.heap (Obj.mapSeq f) (aZ hb)).trans hu) ⟨_,q⟩ ?_;exact⟨hz,its',_,hv,q⟩
theorem Inv.QM {its:List gL}{t':Nat}(I:Inv X pins σ H s)(hv:Vals ys its)(hz:ys.length<=sizeLine) :
  Inv X pins σ (upd H s.heap.objs.size (.lst ys)) {s with heap:=s.heap.push {cls:=.type "list",data:=.seq its.toArray},toks:=t'} :=
 I.laid (λ _ _ q=>ag _ q) (aw _) ⟨hz,its,0,hv,aF _ rfl⟩
theorem Inv.fresh (I:Inv X pins σ H s):H s.heap.objs.size=U5:=I.hok.fresh (aw _)
theorem Inv.DB (I:Inv X pins σ H s)(hH:H l=My (.lst xs)):xs.length<=sizeLine/\∃ (its:List gL) (n:Nat),Vals xs its/\xs.length=its.length/\s.heap.get? l=My {cls:=.type "list",data:=.seq its.toArray n}:=by obtain⟨z,its,n,r,e⟩:=I.hok l _ hH;exact⟨z,its,n,r,r.length,e⟩
theorem BW {n:Nat}(h:n<=sizeLine):Builtin.List.listTooLong n=U7:=by unfold Builtin.List.listTooLong;exact decide_eq_false (by lia)
end
section
variable {X:Cx}
def tj:V->List V->Hp->VK->Prop:=λ x vs H Q=>∃ l xs y,x=.ref l/\vs=[y]/\H l=My (.lst xs)/\xs.length<sizeLine/\Q .non (upd H l (.lst (xs++[y])))
theorem rz:MtM X "list.append" tj:=by intro pins s σ H x vs v us Q I rx rv h;obtain⟨l,xs,y,rfl,rfl,hH,hz,q⟩:=h;cases rx;obtain⟨u,rfl,ru⟩:=rv.one;obtain⟨z,its,n,r,hl,e⟩:=I.DB hH;refine call_meets F.slot_list_append ⟨_,e,rfl⟩ F.entry_list_append (F.args_list_append_2 _ _) (PySem.list_append l its.toArray n u (by rw[ar];lia)) ⟨e,?_⟩;refine⟨.non,_,I.Ob (its':=its++[u]) hH e (by simp) (r.append (.cons ru .nil)) ?_,rfl,q⟩;rw[aK,bG];lia
def KH:V->List V->Hp->VK->Prop:=λ x vs H Q=>∃ l b xs zs,x=.ref l/\vs=[.ref b]/\H l=My (.lst xs)/\H b=My (.lst zs)/\xs.length+zs.length<=sizeLine/\Q .non (upd H l (.lst (xs++zs)))
theorem Qy:MtM X "list.extend" KH:=by
 intro pins s σ H x vs v us Q I rx rv h;obtain⟨l,b,xs,zs,rfl,rfl,hH,hB,hz,q⟩:=h;cases rx;obtain⟨u,rfl,ru⟩:=rv.one;cases ru;obtain⟨z,its,n,r,hl,e⟩:=I.DB hH;obtain⟨z2,its2,n2,r2,hl2,e2⟩:=I.DB hB;have hsz:its.toArray.size+its2.toArray.size<=sizeLine:=by rw[ar,ar];lia
 have hlong:¬ (!its.toArray.isEmpty&&Builtin.List.listTooLong (its.toArray.size+its2.toArray.size))=U6:=by rw[BW hsz,fQ];exact ax
 refine call_meets F.slot_list_extend ⟨_,e,rfl⟩ F.entry_list_extend (F.args_list_extend_2 _ _)
  (AutoSeq1.list_extend_list_list_0 l its.toArray n b its2.toArray n2 hlong (by rw[ar];lia) (by lia)) ⟨e,e2,?_⟩
 refine⟨.non,_,I.Ob (its':=its++its2) hH e (by simp) (r.append r2) ?_,rfl,q⟩;rw[aK];lia
def DC:V->List V->Hp->VK->Prop:=λ x vs H Q=>∃ l xs i k y,x=.ref l/\vs=[.int i]/\H l=My (.lst xs)/\-(2 ^ 63)<=i/\i<2 ^ 63/\seqIndex? i xs.length=My k/\xs[k]?=My y/\Q y (upd H l (.lst (xs.eraseIdx k)))
theorem Hs:MtM X "list.pop" DC:=by
 intro pins s σ H x vs v us Q I rx rv h;obtain⟨l,xs,i,k,y,rfl,rfl,hH,h1,h2,hk,hy,q⟩:=h;cases rx;obtain⟨u,rfl,ru⟩:=rv.one;obtain⟨t,rfl⟩:=ru;obtain⟨z,its,n,r,hl,e⟩:=I.DB hH;obtain⟨w,hw,rw'⟩:=r.get hy;refine call_meets F.slot_list_pop ⟨_,e,rfl⟩ F.entry_list_pop (F.args_list_pop_2 _ _)
  (MeetsSeq.list_pop_at l its.toArray n i t k w (fitsIndex_both h1 h2) (by rw[ar,<-hl];exact hk) (by rw[<-bh];exact hw) (by rw[ar];lia)) ⟨e,?_⟩
 refine⟨y,_,I.Ob (its':=its.eraseIdx k) hH e ?_ (r.eraseIdx k) ?_,rw',q⟩
 ·show its.toArray.eraseIdxIfInBounds k=(its.eraseIdx k).toArray;rw[List.eraseIdxIfInBounds_toArray]
 ·have:=zB xs k;lia
def Tg:R2:=λ x y H Q=>∃ l b xs zs,x=.ref l/\y=.ref b/\H l=My (.lst xs)/\H b=My (.lst zs)/\xs.length+zs.length<=sizeLine/\∀ p,H p=U5->Q (.ref p) (upd H p (.lst (xs++zs)))
theorem Oc:OpR X (binaryOp .Add) Tg:=by
 intro pins s σ H x y v u Q I rx ry h;obtain⟨l,b,xs,zs,rfl,rfl,hH,hB,hz,q⟩:=h;cases rx;cases ry;obtain⟨z,its,n,r,hl,e⟩:=I.DB hH;obtain⟨z2,its2,n2,r2,hl2,e2⟩:=I.DB hB;refine PySem.P.add_list e e2 ?_ (by rw[ar,ar];lia);have ea:its.toArray++its2.toArray=(its++its2).toArray:=by simp
 rw[ea];exact⟨.ref _,_,I.QM (t':=s.toks) (r.append r2) (by rw[aK];lia),rfl,q _ I.fresh⟩
def Th:R2:=λ x y H Q=>∃ l k xs,x=.ref l/\y=.int k/\H l=My (.lst xs)/\-(2 ^ 63)<=k/\k<2 ^ 63/\xs.length*k.toNat<=sizeLine /\
 ∀ p,H p=U5->Q (.ref p) (upd H p (.lst (U9 k.toNat xs).flatten))
theorem len_rep {α:Type}(xs:List α)(k:Nat):(U9 k xs).flatten.length=k*xs.length:=by
 induction k with
 | zero=>simp
 | succ k ih=>rw[cV,el,aK,ih,Nat.succ_mul,Nat.add_comm]
theorem Od:OpR X (binaryOp .Mult) Th:=by
 intro pins s σ H x y v u Q I rx ry h;obtain⟨l,k,xs,rfl,rfl,hH,h1,h2,hz,q⟩:=h;cases rx;obtain⟨t,rfl⟩:=ry;obtain⟨z,its,n,r,hl,e⟩:=I.DB hH;have hlen:its.toArray.size*k.toNat<=sizeLine:=by rw[ar,<-hl];exact hz
 have hcap:¬ its.toArray.size*k.toNat>(2 ^ 63-1) / 8:=by
  have:(sizeLine:Nat)<=(2 ^ 63-1) / 8:=by decide
  lia
 have hfit:¬ (!Builtin.List.listFitsIndex k)=U6:=by rw[fitsIndex_both h1 h2];exact ax
 have hlong:¬ Builtin.List.listTooLong (its.toArray.size*k.toNat)=U6:=by rw[BW hlen];exact ax
 have hnew:List.foldl (λ x1 x2=>x1++x2) #[] (U9 (if its.toArray.isEmpty=U6 then 0 else k.toNat) its.toArray)=(U9 k.toNat its).flatten.toArray:=by
  have f0:∀ m:Nat,List.foldl (λ x1 x2=>x1++x2) #[] (U9 m its.toArray)=(U9 m its).flatten.toArray:=λ m=>by have:=foldl_rep its m [];rw[gq]at this;exact this
  rw[f0];cases its with
  | nil=>simp
  | cons a r'=>rw[au (by simp)]
 refine wpAny_binaryOp_repeat_ref (T:="list") (U:="int") (by decide) ⟨_,e,rfl⟩ (λ s'=>typeIs_int s' k t) noFill_list_mul F.fills_int_mul F.slot_int_rmul repeat_list F.slot_int_index.lookup
  (call_meets F.slot_int_rmul (typeIs_int s k t) F.entry_int_rmul (F.args_int_rmul_2 _ _) (int___rmul___int_list k t l its.toArray n)
   ⟨e,rfl,⟨_,e,rfl⟩,call_meets F.slot_list_mul ⟨_,e,rfl⟩ F.entry_list_mul (F.args_list_mul_2 _ _) (AutoListH.list___mul___list_int_3 l its.toArray n k t hfit hcap hlong) ⟨e,?_⟩⟩)
 rw[hnew];exact⟨.ref _,_,I.QM (t':=s.toks) (r.rep k.toNat) (by rw[len_rep,dM];exact hz),rfl,q _ I.fresh⟩
end
section
variable {prog:Program}{w:World}{A:Around}{E:gH}{s:gM}
end
section
variable {X:Cx}
end
section
variable {κ:Type}[DecidableEq κ]
def oQ (kvs:List (κ×V))(k:κ):gJ V:=(kvs.find? λ kv=>decide (kv.1=k)).map (·.2)
def putK (kvs:List (κ×V))(k:κ)(v:V):List (κ×V) :=
 if (kvs.any λ kv=>decide (kv.1=k))=U6 then kvs.map (λ kv=>if kv.1=k then (kv.1,v) else kv) else kvs++[(k,v)]
theorem tq {p:κ×V}{r:List (κ×V)}{k:κ}(e:p.1=k):oQ (p::r) k=My p.2:=by simp[oQ,dE,e]
theorem xf {p:κ×V}{r:List (κ×V)}{k:κ}(e:¬ p.1=k):oQ (p::r) k=oQ r k:=by simp[oQ,dE,e]
theorem xg (k:κ):∀ kvs:List (κ×V),(kvs.any λ kv=>decide (kv.1=k))=(oQ kvs k).isSome
 | []=>rfl
 | p::r=>by
  rw[List.any_cons];by_cases e:p.1=k
  ·simp only[tq e,decide_eq_true e,Bool.true_or,Option.isSome_some]
  ·rw[xf e,decide_eq_false e,Bool.false_or];exact xg k r
theorem qD (kvs:List (κ×V))(k:κ)(v:V):(putK kvs k v).length<=kvs.length+1:=by
 unfold putK;split
 ·rw[ah];lia
 ·rw[aK,bf,cM];lia
theorem Ht {kvs:List (κ×V)}{k:κ}(v:V)(h:oQ kvs k=U5):putK kvs k v=kvs++[(k,v)]:=by unfold putK;rw[xg,h];exact au (by decide)
theorem yK.uN {o:gJ V}{u:gJ gL}(r:yK o u):o.isSome=u.isSome:=by
 cases o with
 | none=>cases u with
  | none=>rfl
  | some _=>exact(show False from r).elim
 | some _=>cases u with
  | none=>exact(show False from r).elim
  | some _=>rfl
theorem KV.val {kvs:List (κ×V)}{vs:List (κ×gL)}(r:KV kvs vs)(k:κ):yK (oQ kvs k) (valueAt vs k):=by
 unfold KV at r;induction r with
 | nil=>exact True.intro
 | @cons p q ps qs h t ih =>
  obtain⟨h1,h2⟩:=h;by_cases e:p.1=k
  ·have e':q.1=k:=h1.symm.trans e
   have b:valueAt (q::qs) k=My q.2:=by simp[valueAt,dE,e']
   rw[tq e,b];exact h2
  ·have e':¬ q.1=k:=λ z=>e (h1.trans z)
   have b:valueAt (q::qs) k=valueAt qs k:=by simp[valueAt,dE,e']
   rw[xf e,b];exact ih
theorem KV.any {kvs:List (κ×V)}{vs:List (κ×gL)}(r:KV kvs vs)(k:κ):(kvs.any λ kv=>decide (kv.1=k))=vs.any λ kv=>decide (kv.1=k):=by
 unfold KV at r;induction r with
 | nil=>rfl
 | cons h t ih=>rw[List.any_cons,List.any_cons,ih,h.1]
theorem KV.Oe {kvs:List (κ×V)}{vs:List (κ×gL)}(r:KV kvs vs)(k:κ){y:V}{u:gL}(ry:RelV y u) :
  KV (kvs.map λ kv=>if kv.1=k then (kv.1,y) else kv) (vs.map λ kv=>if kv.1=k then (kv.1,u) else kv):=by
 unfold KV at r ⊢;induction r with
 | nil=>exact .nil
 | @cons p q ps qs h t ih =>
  rw[aI,aI];refine .cons ?_ ih;obtain⟨h1,h2⟩:=h;by_cases e:p.1=k
  ·rw[ai e,ai (h1.symm.trans e)];exact⟨h1,ry⟩
  ·rw[au e,au (λ z=>e (h1.trans z))];exact⟨h1,h2⟩
theorem KV.put {kvs:List (κ×V)}{vs:List (κ×gL)}(r:KV kvs vs)(k:κ){y:V}{u:gL}(ry:RelV y u):KV (putK kvs k y) (stored vs k u):=by
 unfold putK stored;rw[r.any k];by_cases e:(vs.any λ kv=>decide (kv.1=k))=U6
 ·rw[ai e,ai e];exact r.Oe k ry
 ·rw[au e,au e];exact fY r ⟨rfl,ry⟩
theorem KV.length {kvs:List (κ×V)}{vs:List (κ×gL)}(r:KV kvs vs):kvs.length=vs.length:=fE r
end
theorem BX {P:Program}{w:World}{k:Key}{u:gL}(r:RelV (kV k) u):(kh P w).is k u=U6:=by
 cases k with
 | inl i=>obtain⟨t,e⟩:=(show ∃ t,u=Value.int i t from r);subst e;exact BH P w i t
 | inr x=>obtain⟨t,e⟩:=(show ∃ t,u=Value.str x t from r);subst e;exact BJ P w x t
theorem zC {P:Program}{w:World}:∀ {ks:List Key} {us:List gL},Vals (ks.map kV) us->ItemsAre (kh P w) ks us
 | [],_,r=>by rw[eo]at r;cases r;exact .nil
 | k::ks,_,r=>by
  rw[aI]at r;cases r with
  | cons h t=>exact .cons (BX h) (zC t)
abbrev KT (H:Hp):List (List Key×V)->List (List Key×Addr×gL)->Prop:=Paired λ p q=>p.1=q.1/\H q.2.1=My (.tup (p.1.map kV))/\RelV p.2 q.2.2
theorem KT.val {H:Hp}{kvs:List (List Key×V)}{xs:List (List Key×Addr×gL)}(r:KT H kvs xs)(k:List Key):yK (oQ kvs k) ((atKey xs k).map (·.2)):=by
 induction r with
 | nil=>exact True.intro
 | @cons p q ps qs h t ih =>
  obtain⟨h1,_,h2⟩:=h;by_cases e:p.1=k
  ·have e':q.1=k:=h1.symm.trans e
   have b:atKey (q::qs) k=My q.2:=by simp[atKey,dE,e']
   rw[tq e,b];exact h2
  ·have e':¬ q.1=k:=λ z=>e (h1.trans z)
   have b:atKey (q::qs) k=atKey qs k:=by simp[atKey,dE,e']
   rw[xf e,b];exact ih
theorem KT.Oe {H:Hp}{kvs:List (List Key×V)}{xs:List (List Key×Addr×gL)}(r:KT H kvs xs)(k:List Key){y:V}{u:gL}(ry:RelV y u) :
  KT H (kvs.map λ kv=>if kv.1=k then (kv.1,y) else kv) (xs.map (putAt k u)):=by
 induction r with
 | nil=>exact .nil
 | @cons p q ps qs h t ih =>
  rw[aI,aI];refine .cons ?_ ih;obtain⟨h1,h2,h3⟩:=h;unfold putAt;by_cases e:p.1=k
  ·rw[ai e,ai (h1.symm.trans e)];exact⟨h1,h2,ry⟩
  ·rw[au e,au (λ z=>e (h1.trans z))];exact⟨h1,h2,h3⟩
theorem KT.put {H:Hp}{kvs:List (List Key×V)}{xs:List (List Key×Addr×gL)}(r:KT H kvs xs)(k:List Key){b:Addr}{y:V}{u:gL}(hb:H b=My (.tup (k.map kV)))(ry:RelV y u) :
  KT H (putK kvs k y) (storedH xs k b u):=by
 have e:(kvs.any λ kv=>decide (kv.1=k))=(atKey xs k).isSome:=by rw[xg,(r.val k).uN,Option.isSome_map]
 unfold putK storedH;rw[e];by_cases q:(atKey xs k).isSome=U6
 ·rw[ai q,ai q];exact r.Oe k ry
 ·rw[au q,au q];exact fY r ⟨rfl,hb,ry⟩
theorem KT.keeps {H H':Hp}{kvs:List (List Key×V)}{xs:List (List Key×Addr×gL)}(r:KT H kvs xs)(ht:∀ b ys,H b=My (.tup ys)->H' b=My (.tup ys)):KT H' kvs xs :=
 Paired.Kq r λ _ _ z=>⟨z.1,ht _ _ z.2.1,z.2.2⟩
section
variable {P:Program}{w:World}{H:Hp}{h:Heap}{a:Addr}
theorem MT {u:HO}(ok:HOk P w H h)(e:Rd H a u):jH P w H h a u:=e.ok ok
theorem BY {kvs:List (Key×V)}(ok:HOk P w H h)(e:Rd H a (.dK kvs)):kvs.length<=sizeLine/\(a==sysModules)=U7/\∃ vs,KV kvs vs/\h.DictOf (kh P w) a vs :=
 show jH P w H h a (.dK kvs) from MT ok e
theorem MU {kvs:List (Key×V)}(ok:HOk P w H h)(e:H a=My (.dK kvs)):kvs.length<=sizeLine/\(a==sysModules)=U7/\∃ vs,KV kvs vs/\h.DictOf (kh P w) a vs:=BY ok (.inl e)
theorem Ay {ks:List Key}(ok:HOk P w H h)(e:H a=My (.tup (ks.map kV))):(tupleKind (kh P w)).is h ks a:=by obtain⟨_,its,r,o,h1,h2,n,h3⟩:=(show jH P w H h a (.tup (ks.map kV)) from ok a _ e);exact⟨o,its.toArray,n,h1,h2,h3,by simpa using zC r⟩
theorem ER {kvs:List (List Key×V)}(ok:HOk P w H h)(e:Rd H a (.dT kvs)):kvs.length<=sizeLine/\(a==sysModules)=U7 /\
  ∃ xs,KT H kvs xs/\h.DictOfH (tupleKind (kh P w)) a xs:=by
 obtain⟨z,y,xs,r,o,es,ep,h1,h2,h3,h4,h5⟩:=(show jH P w H h a (.dT kvs) from MT ok e);refine⟨z,y,xs,r,o,es,ep,h1,h2,h3,h4,λ x hx=>?_,h5⟩;have all:∀ {l:List (List Key×V)} {m:List (List Key×Addr×gL)},KT H l m->∀ x∈m,(tupleKind (kh P w)).is h x.1 x.2.1:=by
  intro l m q;induction q with
  | nil=>intro x hx;exact nomatch hx
  | @cons p q ps qs hq t ih =>
   intro x hx;rcases aD.mp hx with e | hx
   ·subst e;exact Ay ok (by rw[<-hq.1];exact hq.2.1)
   ·exact ih x hx
 exact all r x hx
theorem QN {kvs:List (List Key×V)}(ok:HOk P w H h)(e:H a=My (.dT kvs)):kvs.length<=sizeLine/\(a==sysModules)=U7 /\
  ∃ xs,KT H kvs xs/\h.DictOfH (tupleKind (kh P w)) a xs:=ER ok (.inl e)
end
def yP (H:Hp)(a:Addr)(y:V)(r:gJ V):Prop :=
 (∃ kvs k,Rd H a (.dK kvs)/\y=kV k/\r=oQ kvs k)\/∃ kvs k b,Rd H a (.dT kvs)/\y=.ref b/\H b=My (.tup (k.map kV))/\r=oQ kvs k
def Hu (H:Hp)(a:Addr)(y v:V)(H':Hp):Prop :=
 (∃ kvs k,H a=My (.dK kvs)/\y=kV k/\kvs.length<sizeLine/\H'=upd H a (.dK (putK kvs k v))) \/
 ∃ kvs k b,H a=My (.dT kvs)/\y=.ref b/\H b=My (.tup (k.map kV))/\kvs.length<sizeLine/\H'=upd H a (.dT (putK kvs k v))
theorem yP.k {H:Hp}{a:Addr}{kvs:List (Key×V)}{k:Key}(e:H a=My (.dK kvs)):yP H a (kV k) (oQ kvs k):=.inl ⟨kvs,k,.inl e,rfl,rfl⟩
theorem Hu.k {H:Hp}{a:Addr}{kvs:List (Key×V)}{k:Key}{v:V}(e:H a=My (.dK kvs))(hl:kvs.length<sizeLine):Hu H a (kV k) v (upd H a (.dK (putK kvs k v))):=.inl ⟨kvs,k,e,rfl,hl,rfl⟩
section
variable {X:Cx}{pins:gO}{σ:St}{H:Hp}{s:gM}{a:Addr}{y v:V}{u r:gL}{o:gJ V}{A:Around}{E:gH}
theorem Inv.big (I:Inv X pins σ H s):sysModules<s.heap.objs.size:=by have h:mainGlobals<s.heap.objs.size:=(I.mod.glob.keeps I.bk).lt;exact Nat.lt_trans (by decide) h
theorem F4 {Q:gH}(hu:A.units+1<cLine)(I:Inv X pins σ H s)(g:yP H a y (My v))(ry:RelV y u)(h:∀ w' s',Inv X pins σ H s'->RelV v w'->Q w' s') :
  wpAny (model X.prog X.w) A (getItem (.ref a) u) Q E s:=by
 rcases g with⟨kvs,k,e,ey,l⟩ | ⟨kvs,k,b,e,ey,eb,l⟩
 ·subst ey;obtain⟨z,hd,vs,rel,dd⟩:=BY I.hok e;obtain⟨w',hw,rw'⟩:=yK.some_of (v:=v) (o:=valueAt vs k) (by rw[l];exact rel.val k);exact wpAny_getItem_of (BX ry) dd.mapOf hw (h w' _ (I.tok _) rw')
 ·subst ey;cases (show u=Value.ref b from ry);obtain⟨z,hd,xs,rel,dd⟩:=ER I.hok e;obtain⟨w',hw,rw'⟩:=yK.some_of (v:=v) (o:=(atKey xs k).map (·.2)) (by rw[l];exact rel.val k);obtain⟨p,hp,hp2⟩:=Option.map_eq_some_iff.mp hw;refine wpAny_getItem_heap (tupleKind_room_in1 hu) (Ay I.hok eb) dd hp ?_;rw[hp2];exact h w' _ (I.tok _) rw'
theorem KI {Q:gH}(hu:A.units+1<cLine)(I:Inv X pins σ H s)(g:yP H a y o)(ry:RelV y u)(h:∀ s',Inv X pins σ H s'->Q (.bool (!o.isSome)) s') :
  wpAny (model X.prog X.w) A (compareOp .NotIn u (.ref a)) Q E s:=by
 rcases g with⟨kvs,k,e,ey,l⟩ | ⟨kvs,k,b,e,ey,eb,l⟩
 ·subst ey;obtain⟨z,hd,vs,rel,dd⟩:=BY I.hok e;refine wpAny_notIn_of (BX ry) hd dd.mapOf ?_;rw[<-(rel.val k).uN,<-l];exact h _ (I.tok _)
 ·subst ey;cases (show u=Value.ref b from ry);obtain⟨z,hd,xs,rel,dd⟩:=ER I.hok e;refine wpAny_notIn_heap (tupleKind_room_in1 hu) (Ay I.hok eb) hd dd ?_;have q:=(rel.val k).uN;rw[Option.isSome_map]at q;rw[<-q,<-l];exact h _ (I.tok _)
theorem Az {h':Heap}{t':Nat}{ob:HO}(I:Inv X pins σ H s)(mu:Mut (H a))(hs:Heap.SameBut a s.heap h')(he:∃ q,h'.get? a=My q)(new:jH X.prog X.w (upd H a ob) h' a ob) :
  Inv X pins σ (upd H a ob) {s with heap:=h',toks:=t'} :=
 I.write (x:=a) (e:=a) mu (.inl rfl) (λ b q hb z=>(hs.2 b hb).trans z) he new
theorem Hv {P:Program}{w:World}{H':Hp}{h':Heap}{kvs:List (Key×V)}{vs:List (Key×gL)}(z:kvs.length<=sizeLine)(hd:(a==sysModules)=U7)(rel:KV kvs vs)(dd:h'.DictOf (kh P w) a vs) :
  jH P w H' h' a (.dK kvs):=⟨z,hd,vs,rel,dd⟩
theorem F5 {H':Hp}{Q:Unit->gM->Prop}(hu:A.units+1<cLine)(I:Inv X pins σ H s)(g:Hu H a y v H')(ry:RelV y u)(rv:RelV v r)(h:∀ s',Inv X pins σ H' s'->Q () s') :
  wpAny (model X.prog X.w) A (setItem (.ref a) u r) Q E s:=by
 rcases g with⟨kvs,k,e,ey,l,eH⟩ | ⟨kvs,k,b,e,ey,eb,l,eH⟩
 ·subst ey eH
  obtain⟨z,hd,vs,rel,dd⟩:=MU I.hok e;have hz:vs.length<=sizeLine:=by rw[<-rel.length];exact z
  have hl:(putK kvs k v).length<=sizeLine:=by have:=qD kvs k v;lia
  refine wpAny_setItem_pairs (hsz:=hz) (BX ry) dd λ h' dd' hs=>h _ ?_;have he:∃ q,h'.get? a=My q:=let ⟨q,_,_,hq,_⟩:=dd';⟨q,hq⟩;exact Az I (by rw[e];exact True.intro) hs he (Hv hl hd (rel.put k rv) dd')
 ·subst ey eH
  cases (show u=Value.ref b from ry);obtain⟨z,hd,xs,rel,dd⟩:=QN I.hok e;have hz:xs.length<=sizeLine:=by rw[<-fE rel];exact z
  have hl:(putK kvs k v).length<=sizeLine:=by have:=qD kvs k v;lia
  refine wpAny_setItem_heap (hsz:=hz) (tupleKind_room_in1 hu) (Ay I.hok eb) dd λ h' dd' hs=>h _ ?_;obtain⟨q,es,ep,hq,h2,h3,h4,_,h5⟩:=dd';refine Az I (by rw[e];exact True.intro) hs ⟨q,hq⟩ ⟨hl,hd,_,(rel.put k eb rv).keeps λ c ys ec=>?_,q,es,ep,hq,h2,h3,h4,h5⟩;rw[hU (Qz ec e (λ z=>nomatch z))];exact ec
end
section
variable {X:Cx}{pins:gO}{σ:St}{H:Hp}{s:gM}{a:Addr}{kvs:List (Key×V)}{k:Key}{u:gL}{A:Around}{E:gH}
theorem QO {Q:gH}(I:Inv X pins σ H s)(e:Rd H a (.dK kvs))(h:∀ t s',Inv X pins σ H s'->Q (.int kvs.length t) s'):wpAny (model X.prog X.w) A (call (.builtin "len") [.ref a]) Q E s:=by obtain⟨z,hd,vs,rel,dd⟩:=BY I.hok e;refine call_len_dict hd dd (by rw[<-rel.length];rw[sizeLine_eq]at z;lia) ?_;rw[<-rel.length];exact h _ _ (I.tok _)
end
def QP (i:Expr):Prop:=∀ ov iv,subscripted i U7 ov iv=operate [ov,iv] (getItem ov iv)
theorem KJ {prog:Program}{w:World}{A:Around}{E:gH}{s:gM}{env:Env}{value slice:Expr}{pos:Pos}{T id:String}{Q:gH}
  (hl:typeLookup (.type T) "__getitem__"=pure (My (.builtin id))) (hs:QP slice)
  (h:wpAny (model prog w) A (eval value env) (λ o s₁=>wpAny (model prog w) A (eval slice env) (λ i s₂=>s₂.TypeIs o T/\wpAny (model prog w) A (getItem o i) Q E s₂) E s₁) E s) :
  wpAny (model prog w) A (eval (.Subscript value slice pos) env) Q E s:=by
 refine Subscript_ (dh h (λ o s₁ h₁=>dh h₁ (λ i s₂ h₂=>?_) λ _ _ x=>x) λ _ _ x=>x);obtain⟨hT,h₂⟩:=h₂;unfold subscriptTail;refine ae ?_;rw[getitemInPython_of_ne hT.not_modules];refine ae (wpAny_specialOf hT hl ?_);have fin:wpAny (model prog w) A (subscripted slice U7 o i) (λ r s₃=>wpAny (model prog w) A (letTemporaryGo value o r>>=λ _=>pure r) Q E s₃) E s₂:=by rw[hs o i];exact wpAny_operating (dh h₂ (λ r s₃ h₃=>ae (wpAny_letTemporaryGo (af h₃))) λ _ _ x=>x)
 first
  | exact af (ae fin)
  | exact ae (af (ae fin))
  | exact ae fin
theorem BZ {X:Cx}{pins:gO}{σ:St}{H:Hp}{s:gM}{a:Addr}{y:V}{o:gJ V}(I:Inv X pins σ H s)(g:yP H a y o):s.TypeIs (.ref a) "dict":=by
 rcases g with⟨kvs,k,e,_,_⟩ | ⟨kvs,k,b,e,_,_,_⟩
 ·obtain⟨_,_,vs,_,dd⟩:=BY I.hok e;exact dd.typeIs
 ·obtain⟨_,_,xs,_,dd⟩:=ER I.hok e;exact dd.typeIs
def MV (td ty:TE):TE:=λ σ H Q=>td σ H λ x H1=>ty σ H1 λ y H2=>∃ a v,x=.ref a/\yP H2 a y (My v)/\Q v H2
def ES (ty td:TE):TE:=λ σ H Q=>ty σ H λ y H1=>td σ H1 λ x H2=>∃ a o,x=.ref a/\yP H2 a y o/\Q (.bl (!o.isSome)) H2
def MW (td ty tv:TE):TS:=λ D σ H=>tv σ H λ v H1=>td σ H1 λ x H2=>ty σ H2 λ y H3=>∃ a H4,x=.ref a/\Hu H3 a y v H4/\D.nx σ H4
section
variable {X:Cx}{o i e value:Expr}{pos pos' tpos:Pos}{td ty tv:TE}
theorem KL (hu:X.A.units+1<cLine)(ho:PE X o td)(hi:PE X i ty)(hs:QP i):PE X (.Subscript o i pos) (MV td ty):=by intro pins s σ H Q I h;refine KJ PySem.F.slot_dict_getitem.lookup hs (thn (ho pins s σ H _ I h) λ u s1 ⟨x,H1,I1,rx,q1⟩=>thn (hi pins s1 σ H1 _ I1 q1) λ iv s2 ⟨y,H2,I2,ry,a,v,ex,g,q2⟩=>?_);subst ex;obtain rfl:u=Value.ref a:=rx;exact⟨BZ I2 g,F4 hu I2 g ry λ w' s3 I3 rw'=>⟨v,H2,I3,rw',q2⟩⟩
theorem F6 (hu:X.A.units+1<cLine)(hi:PE X i ty)(ho:PE X o td):PC X .NotIn i o (ES ty td):=by intro pins s σ H Q I h;refine thn (hi pins s σ H _ I h) λ iv s1 ⟨y,H1,I1,ry,q1⟩=>thn (ho pins s1 σ H1 _ I1 q1) λ u s2 ⟨x,H2,I2,rx,a,ov,ex,g,q2⟩=>?_;subst ex;obtain rfl:u=Value.ref a:=rx;exact KI hu I2 g ry λ s3 I3=>⟨.bl (!ov.isSome),H2,I3,rfl,q2⟩
theorem KN (hu:X.A.units+1<cLine)(ho:PE X o td)(hi:PE X i ty)(hv:PE X value tv)(hs:swapsWith value (My (.Subscript o i pos')) pos.line X.env=pure U7) :
  PS X (.Assign [.Subscript o i pos'] value pos) (MW td ty tv):=by
 intro pins s σ H D I h;refine wpAny_Assign_Subscript (thn (hv pins s σ H _ I h) λ r s1 ⟨v,H1,I1,rv,q1⟩=>thn (ho pins s1 σ H1 _ I1 q1) λ u s2 ⟨x,H2,I2,rx,q2⟩=>thn (hi pins s2 σ H2 _ I2 q2) λ iv s3 ⟨y,H3,I3,ry,a,H4,ex,g,q3⟩=>?_) hs;subst ex;obtain rfl:u=Value.ref a:=rx;exact F5 hu I3 g ry rv λ s4 I4=>⟨σ,H4,I4,q3⟩
end
theorem B0 {P:Program}{w:World}{H:Hp}(h:Heap)(hb:sysModules<h.objs.size):jH P w H (h.push {cls:=.type "dict",data:=.dict #[]}) h.objs.size (.dK []) :=
 ⟨aT _,beq_eq_false_iff_ne.mpr (aZ (aM hb)),[],.nil,Heap.DictOf.new h⟩
def Hw:TE:=λ _ H Q=>∀ p,H p=U5->Q (.ref p) (upd H p (.dK []))
section
variable {X:Cx}{pos:Pos}
theorem Hx:PE X (.Dict [] [] pos) Hw:=λ pins s σ H Q I h =>wpAny_Dict_empty ⟨.ref s.heap.objs.size,_,I.laid (a:=s.heap.objs.size) (o:=.dK []) (t':=s.toks) (λ _ _ q=>ag _ q) (aw _) (B0 s.heap I.big),rfl,h _ (I.hok.fresh (aw _))⟩
end
def DD:List (TE×TE)->St->Hp->(List (V×V)->Hp->Prop)->Prop
 | [],_,H,Q=>Q [] H
 | (tk,tv)::r,σ,H,Q=>tk σ H λ x H1=>tv σ H1 λ y H2=>DD r σ H2 λ ps H3=>Q ((x,y)::ps) H3
abbrev VV:List (V×V)->List (gL×gL)->Prop:=Paired λ p q=>RelV p.1 q.1/\RelV p.2 q.2
def PPs (X:Cx)(pos:Pos)(keys:List (gJ Expr))(values:List Expr)(trs:List (TE×TE)):Prop :=
 ∀ (pins:gO) (s:gM) (σ:St) (H:Hp) (Q:List (V×V)->Hp->Prop),Inv X pins σ H s->DD trs σ H Q ->
  wpAny (model X.prog X.w) X.A (evalPairs (pairTrees keys values X.env pos)) (λ vs s'=>∃ ps H',Inv X pins σ H' s'/\VV ps vs/\Q ps H') X.xe s
theorem KO {X:Cx}{pos:Pos}:PPs X pos [] [] []:=λ pins s σ H Q I h=>pairTrees_nil_walk ⟨[],H,I,.nil,h⟩
theorem Hy {X:Cx}{pos:Pos}{k v:Expr}{ks:List (gJ Expr)}{vs:List Expr}{tk tv:TE}{trs:List (TE×TE)}(hk:PE X k tk)(hv:PE X v tv)(hr:PPs X pos ks vs trs) :
  PPs X pos (My k::ks) (v::vs) ((tk,tv)::trs):=λ pins s σ H Q I h =>
 pairTrees_cons_walk (thn (hk pins s σ H _ I h) λ u s1 ⟨x,H1,I1,rx,q1⟩=>thn (hv pins s1 σ H1 _ I1 q1) λ w2 s2 ⟨y,H2,I2,ry,q2⟩ =>thn (hr pins s2 σ H2 _ I2 q2) λ ws s3 ⟨ps,H3,I3,rel,q3⟩=>⟨(x,y)::ps,H3,I3,.cons ⟨rx,ry⟩ rel,q3⟩)
def uO (kvs more:List (Key×V)):List (Key×V):=more.foldl (λ acc kv=>putK acc kv.1 kv.2) kvs
theorem KV.merge:∀ {more:List (Key×V)} {rs:List (Key×gL)} {kvs:List (Key×V)} {vs:List (Key×gL)},KV more rs->KV kvs vs->KV (uO kvs more) (merged vs rs):=by
 intro more rs kvs vs r;unfold KV at r;induction r generalizing kvs vs with
 | nil=>intro q;exact q
 | @cons p q ps qs h t ih =>
  intro r0;have e:KV (putK kvs p.1 p.2) (stored vs q.1 q.2):=by have:=r0.put p.1 h.2;rw[<-h.1];exact this
  exact ih e
theorem r_:∀ (more kvs:List (Key×V)),(uO kvs more).length<=kvs.length+more.length
 | [],kvs=>by show kvs.length<=kvs.length+0;lia
 | p::r,kvs=>by have h1:=r_ r (putK kvs p.1 p.2);have h2:=qD kvs p.1 p.2;show(uO (putK kvs p.1 p.2) r).length<=_;rw[bf];lia
theorem xh {P:Program}{w:World}:∀ {kvs:List (Key×V)} {ws:List (gL×gL)},VV (kvs.map λ kv=>(kV kv.1,kv.2)) ws->∃ rs,Carries (kh P w) ws rs/\KV kvs rs
 | [],_,r=>by rw[eo]at r;cases r;exact⟨[],True.intro,.nil⟩
 | p::kvs,_,r=>by
  rw[aI]at r;cases r with
  | @cons a b as bs h t =>obtain⟨rs,c,q⟩:=xh (P:=P) (w:=w) t;obtain⟨b1,b2⟩:=b;exact⟨(p.1,b2)::rs,⟨BX h.1,rfl,c⟩,.cons ⟨rfl,h.2⟩ q⟩
def MX (trs:List (TE×TE)):TE:=λ σ H Q=>∀ p,H p=U5->DD trs σ (upd H p (.dK [])) λ ps H2=>H2 p=My (.dK [])/\∃ kvs:List (Key×V),ps=kvs.map (λ kv=>(kV kv.1,kv.2))/\kvs.length<=15/\Q (.ref p) (upd H2 p (.dK (uO [] kvs)))
theorem KP {X:Cx}{pos:Pos}{keys:List (gJ Expr)}{values:List Expr}{trs:List (TE×TE)}(h:PPs X pos keys values trs)(hall:keys.all (·.isSome)=U6)(hl:keys.length=values.length)(h0:keys≠[])
  (h15:keys.length<=15):PE X (.Dict keys values pos) (MX trs):=by
 intro pins s σ H Q I q;have hn:=I.hok.fresh (aw s.heap.objs.size);have I1:=I.laid (a:=s.heap.objs.size) (o:=.dK []) (h':=s.heap.push {cls:=.type "dict",data:=.dict #[]}) (t':=s.toks) (λ _ _ q=>ag _ q) (aw _) (B0 s.heap I.big);refine wpAny_Dict_walk (knd:=kh X.prog X.w) hall hl h0 h15 (thn (h pins _ σ _ _ I1 (q _ hn)) λ ws s2 ⟨ps,H2,I2,rel,e,kvs,ep,lk,q2⟩=>?_);subst ep;obtain⟨rs,c,rk⟩:=xh (P:=X.prog) (w:=X.w) rel;obtain⟨z,hd,vs0,r0,dd⟩:=MU I2.hok e;cases r0;refine⟨rs,c,dd,λ h' dd' hs=>⟨.ref s.heap.objs.size,_,?_,rfl,q2⟩⟩;have hz:(uO [] kvs).length<=sizeLine:=by have h1:=r_ kvs [];rw[cM]at h1;rw[sizeLine_eq];lia
 have he:∃ q,h'.get? s.heap.objs.size=My q:=let ⟨q,_,_,hq,_⟩:=dd';⟨q,hq⟩;exact Az I2 (by rw[e];exact True.intro) hs he (Hv hz hd (rk.merge .nil) dd')
section
variable {X:Cx}{pins:gO}{σ:St}{H:Hp}{s:gM}{a:Addr}{y d:V}{u r:gL}{o:gJ V}{A:Around}{E:gH}
end
section
variable {X:Cx}{o e f:Expr}{apos cpos:Pos}{td ty tx:TE}
end
section
variable {X:Cx}{pins:gO}{σ:St}{H:Hp}{s:gM}{a:Addr}{kvs:List (Key×V)}{A:Around}{E:gH}
end
section
variable {X:Cx}{pins:gO}{σ:St}{H:Hp}{s:gM}{a:Addr}{y:V}{u:gL}{A:Around}{E:gH}
end
end L2
namespace Att
open PySem PySem.W PySem.Calls PyProof.Rows
theorem vQ {P:Params}{h:Heap}:∀ (ns:List Int) (vs:List gL),WellAll P h vs (ns.map WData.int)->IntsAre vs ns:=by
 intro ns;induction ns with
 | nil =>intro vs w;rw[eo]at w;cases w;exact .nil
 | cons n ns ih =>
  intro vs w;rw[aI]at w;cases w with
  | cons a b =>cases a;exact .cons _ _ (ih _ b)
theorem zD {l:OpenLaw}{n:Nat}(hn:l.most=My n){P:Params}{h:Heap}{args:List WData}{vals:List gL}
  (hpre:l.row.toRowW.claim.pre args=U6) (hwl:WellAll P h vals args) :
  ∃ a vs ns,vals=[Value.ref a]/\args=[WData.list (ns.map WData.int)]/\h.get? a=My {cls:=.type "list",data:=.seq vs.toArray}/\IntsAre vs ns/\ns.length<=n:=by
 have hsh:WShape.hasAll [] args [.list .int]=U6:=(pre_splitW hpre).1;have hc:l.pre.holds [] {args:=args}=U6:=(pre_splitW hpre).2;obtain⟨d,r,rfl,h1,h2⟩:=hasAllW_cons hsh;obtain rfl:=hasAllW_nil h2;obtain⟨xs,rfl,h3⟩:=hasW_list h1;obtain⟨ns,rfl⟩:=items_int h3;have hlen:ns.length<=n:=by
  unfold OpenLaw.pre at hc;have h4:(WTm.not (.lt (.lit (.int (n:Int))) (.len (.arg 0)))).holds [] {args:=[.list (ns.map .int)]}=U6:=by have h4:=(holds_andW hc).1;rw[hn]at h4;exact h4
  have h5:=condW_of h4 (w_not (w_lt w_lit (w_len_list (w_arg rfl))));rw[ah]at h5;refine fx λ q=>?_;have q':(n:Int)<((ns.length:Nat):Int):=by lia
  first
   | (rw[decide_eq_true q']at h5;exact absurd h5 (by decide))
   | (simp at h5;lia)
 cases hwl with
 | cons w1 w2 =>
  cases w2;cases w1 with
  | list ho hall=>exact⟨_,_,ns,rfl,rfl,ho,vQ ns _ hall,hlen⟩
theorem zE (l:OpenLaw)(args:List WData):l.row.toRowW.claim.post args (.bool U6) args=U6 :=
 postW_of (r:=l.row.toRowW) (X:=(U6==U6))
  (show WShape.has [] (.bool U6) .bool=U6 by first | rfl | decide | simp[WShape.has,WShape.arms,WShape.armsAll])
  (show(WTm.eq .res (.lit (.bool U6))).value [] {args:=args,res:=My (.bool U6),after:=args}=My (.bool (U6==U6)) from w_eq_bool (w_res rfl) w_lit) rfl
theorem attach {l:OpenLaw}{n:Nat}{q:Program}{loose:List Str}{XP:(Str->gJ gL)->Heap->Prop}{YP:World->Heap->Prop}{d:DefRec}{x:Str}
  (hn:l.most=My n) (hdf:d.params.defaults=[])
  (hbind:∀ pm cd doc v:gL,bindArgs (docDef d.name d.params d.body d.scope pm cd doc) ⟨[v],[]⟩=pure [(x,v)])
  (hx:d.scope.names.lookup x=My .local\/d.scope.names.lookup x=My .cell)
  (hk:d.scope.kind=.function) (hco:d.scope.isCoroutine=U7) (hgen:d.scope.isGenerator=U7)
  (body:∀ (w:World) (s₀ s₁ s:gM) (mg mb:gG) (fa:Addr) (o:Obj) (pm cd doc:gL) (a:Addr) (vs:List gL) (ns:List Int),
   Ground q loose [] XP w s₀ mg mb s₁.heap->YP w s₁.heap ->
   s₁.heap.get? fa=My o->o.data=.func (docDef d.name d.params d.body d.scope pm cd doc)->s₁.heap.CodeRec cd d.name->mg d.name=My (.ref fa) ->
   s₁.heap.get? a=My {cls:=.type "list",data:=.seq vs.toArray}->IntsAre vs ns->ns.length<=n ->
   s.gens=#[]->s.os=s₁.os ->
   Fr s₁.heap s₁.heap.objs.size s.heap (bindL (envOfC d.name d.scope s₁.heap.objs.size fa cd).kindOf [(x,.ref a)] λ _=>U5) ->
   Cl s₁.heap.objs.size (cellsFrom (s₁.heap.objs.size+1) d.scope.names []) s.heap (bindC (envOfC d.name d.scope s₁.heap.objs.size fa cd).kindOf [(x,.ref a)] λ _=>U5) ->
   wpAny (model l.prog w) (callerA.deeper (envOfC d.name d.scope s₁.heap.objs.size fa cd)) (execs d.body (envOfC d.name d.scope s₁.heap.objs.size fa cd))
    (λ f s'=>f=.ret (.bool U6)/\OldK s₁.heap s'.heap/\s'.os=s₁.os/\AllBare s'.gens) (λ _ _=>False) s) :
  WalkO q loose XP YP l.row.toRowW d [] (λ f vs=>PySem.call f vs):=by
 intro w s₀ s₁ mg mb G Y fa o pm cd doc dV kV ho hd hcd hD hmg hg args vals as hpre hlay hrd hwl hlo;obtain rfl:dV=.none:=Dflts.none hD hdf;obtain rfl:kV=.none:=Dflts.noKw hD;obtain⟨a,vs,ns,rfl,rfl,hobj,hints,hlen⟩:=zD hn hpre hwl;refine enter_call ?_;refine call_cells_ret (o:=o) (by rw[depth_caller];decide) ho (fd_plain hd) G.T.nolimit hcd (hbind pm cd doc (.ref a)) (λ y hy=>?_) (λ h₁ tk F X=>?_) hco hgen hk
 ·obtain rfl:y=(x,Value.ref a):=bp.mp hy
  rcases hx with e | e
  ·exact .inl e
  ·exact .inr ⟨e,cellsFrom_some _ _ _ (.inl e)⟩
 ·refine dh (body w s₀ s₁ {s₁ with heap:=h₁,toks:=tk} mg mb fa o pm cd doc a vs ns G Y ho (fd_plain hd) hcd hmg hobj hints hlen hg rfl F X) (λ f s' hq=>?_) (λ _ _ hq=>hq);obtain⟨rfl,h2,h3,h4⟩:=hq;exact⟨.inl ⟨.bool U6,.bool U6,[],rfl,λ _=>rfl,.bool U6,zE l _,λ _=>⟨List.Pairwise.nil,λ _ hm=>(nomatch hm)⟩⟩,h2,h3,h4⟩
theorem B1 {l:OpenLaw}{n:Nat}{q:Program}{loose:List Str}{XP:(Str->gJ gL)->Heap->Prop}{YP:World->Heap->Prop}{d:DefRec}
  (hn:l.most=My n) (hdf:d.params.defaults=[])
  (call:∀ (w:World) (s₀ s₁:gM) (mg mb:gG) (fa:Addr) (o:Obj) (pm cd doc:gL) (a:Addr) (vs:List gL) (ns:List Int),
   Ground q loose [] XP w s₀ mg mb s₁.heap->YP w s₁.heap ->
   s₁.heap.get? fa=My o->o.data=.func (docDef d.name d.params d.body d.scope pm cd doc)->s₁.heap.CodeRec cd d.name->mg d.name=My (.ref fa) ->
   s₁.heap.get? a=My {cls:=.type "list",data:=.seq vs.toArray}->IntsAre vs ns->ns.length<=n->s₁.gens=#[] ->
   codeAny (model l.prog w) callerA (.call (.ref fa) ⟨[.ref a],[]⟩) (λ r s'=>r=.ok (.ret (.bool U6))/\OldK s₁.heap s'.heap/\s'.os=s₁.os/\AllBare s'.gens) s₁) :
  WalkO q loose XP YP l.row.toRowW d [] (λ f vs=>PySem.call f vs):=by
 intro w s₀ s₁ mg mb G Y fa o pm cd doc dV kV ho hd hcd hD hmg hg args vals as hpre hlay hrd hwl hlo;obtain rfl:dV=.none:=Dflts.none hD hdf;obtain rfl:kV=.none:=Dflts.noKw hD;obtain⟨a,vs,ns,rfl,rfl,hobj,hints,hlen⟩:=zD hn hpre hwl;refine enter_call (codeAny_mono (call w s₀ s₁ mg mb fa o pm cd doc a vs ns G Y ho (fd_plain hd) hcd hmg hobj hints hlen hg) λ r s' hq=>?_);obtain⟨rfl,h2,h3,h4⟩:=hq;exact⟨.inl ⟨.bool U6,.bool U6,[],rfl,λ _=>rfl,.bool U6,zE l _,λ _=>⟨List.Pairwise.nil,λ _ hm=>(nomatch hm)⟩⟩,h2,h3,h4⟩
section
variable {prog:Program}{w:World}{A:Around}{E:gH}{s:gM}{K:Frag}
def jr (h:Heap):Heap:={h with objs:=#[]}
end
end Att
namespace L2
open PySem PySem.Spec PyProof.Rows
theorem zF:∀ {vs:List gL} {ns:List Int},IntsAre vs ns->Vals (ns.map V.int) vs
 | _,_,.nil=>.nil
 | _,_,.cons n t h=>.cons ⟨t,rfl⟩ (zF h)
def Oh (H:Hp):Prop:=∀ b,H b=U5\/∃ o xs,H b=My (.frz o (.lst xs))
theorem Hz {P:Program}{w:World}{K:gK}{mg mb:gG}{CX:CXT}{k:Nat}{fa a:Addr}{fd:FuncData}{x:Str}{sp:Sp}{s₁:gM}{vs:List gL}{ns:List Int}
  (KX:K.In s₁.heap) (hns:s₁.heap.Ns mainGlobals mg) (hb:s₁.heap.Ns builtinsNs mb) (hbb:∀ x:Str,x≠"__name__"->mb x=bootBuiltins x) (hlim:s₁.heap.NoLimit) (hg:s₁.gens=#[])
  (ha:s₁.heap.get? a=My {cls:=.type "list",data:=.seq vs.toArray}) (hi:IntsAre vs ns) (hl:ns.length<=sizeLine) (hr:jI k callerA)
  (F:∀ base:Heap,K.In base->base.Ns mainGlobals mg->pg P w K mg base CX k fa fd [x] sp) (hbind:∀ (s:gM) (u:gL),BindsTo s fd ⟨[u],[]⟩ [(x,u)])
  (hsp:∀ H:Hp,Oh H->SqL K H a (ns.map V.int)->sp [.ref a] H (λ v _=>v=.bl U6) λ _ _ _=>False)
  (hCX:∀ H e s',CX [] H s₁ (λ _ _ _=>False) e s'->False) :
  codeAny (model P w) callerA (.call (.ref fa) ⟨[.ref a],[]⟩) (λ r s'=>r=.ok (.ret (.bool U6))/\OldK s₁.heap s'.heap/\s'.os=s₁.os/\AllBare s'.gens) s₁:=by
 have rv:=zF hi;have lenV:=hi.length;have core:∀ H:Hp,Oh H->SqL K H a (ns.map V.int)->HOk P w H s₁.heap->(∀ b,H b≠U5->b=a)->(H a≠U5->K.lookup a=U5) ->
   codeAny (model P w) callerA (.call (.ref fa) ⟨[.ref a],[]⟩) (λ r s'=>r=.ok (.ret (.bool U6))/\OldK s₁.heap s'.heap/\s'.os=s₁.os/\AllBare s'.gens) s₁:=by
  intro H hO hS hok hA hK;have base_of:∀ {b:Addr} {o:Obj},s₁.heap.get? b=My o->H b=U5->(Ai s₁.heap H).get? b=My o:=λ e n=>G5 e n;have noA:∀ {b:Addr} {o:Obj} {es:Array DictEntry} {ep:Nat},s₁.heap.get? b=My o->o.data=.dict es ep->H b=U5:=λ{b o es ep} e d=>by
   cases q:H b with
   | none=>rfl
   | some u =>have e':b=a:=hA b (by rw[q];simp);subst e';rw[ha]at e;cases e;have d':Data.seq vs.toArray _=Data.dict es ep:=d;cases d'
  have nsK:∀ {b:Addr} {m:gG},s₁.heap.Ns b m->(Ai s₁.heap H).Ns b m:=λ{b m} ⟨o,es,ep,e,d,r⟩=>⟨o,es,ep,base_of e (noA e d),d,r⟩;have hKb:K.In (Ai s₁.heap H):=λ b o e=>base_of (KX b o e) (by
   cases q:H b with
   | none=>rfl
   | some u =>have e':b=a:=hA b (by rw[q];simp);subst e';rw[hK (by rw[q];simp)]at e;cases e)
  have hM:Mod K mg (Ai s₁.heap H):=⟨hKb,nsK hns,⟨mb,nsK hb,hbb⟩,let ⟨mc,h1,h2⟩:=hlim;⟨mc,nsK h1,h2⟩⟩;have e0:F3 P w K mg (Ai s₁.heap H) callerA [] s₁ H:=⟨rfl,hM,λ b o e=>Kr e,fM (FW _ _),trivial,λ b hb=>absurd (show b∈([]:List Addr) from hb) (by simp),hok,.of_eq hg⟩;refine codeAny_mono ((F _ hKb (nsK hns)).run callerA [] s₁ H ⟨[.ref a],[]⟩ [.ref a] [.ref a] _ _ hr e0 (hbind s₁ (.ref a)) (.cons rfl .nil) (hsp H hO hS)) λ r s' h=>?_;cases r with
  | error e=>exact(hCX H e s' h).elim
  | ok fl =>
   cases fl with
   | next=>exact False.elim h
   | brk=>exact False.elim h
   | cont=>exact False.elim h
   | ret u =>
    obtain⟨v,H',os,bare,un,hok',r',q⟩:=h;have q':v=.bl U6:=q;subst q';obtain rfl:u=Value.bool U6:=r';refine⟨rfl,OldK.of_keep λ b o e=>?_,os,bare⟩;cases q:H b with
    | none=>exact un.keep b o e q (by intro z;exact absurd (show b∈([]:List Addr) from z) (by simp)) (by simp)
    | some u =>
     rcases hO b with z | ⟨ob,xs,z⟩
     ·rw[q]at z;cases z
     ·have z2:=un.qr b ob _ z;obtain⟨e1,_⟩:=hok b _ z;obtain⟨e2,_⟩:=hok' b _ z2;rw[e]at e1;cases e1;exact e2
 cases hk:K.lookup a with
 | some o =>have e:=KX a o hk;rw[ha]at e;cases e;refine core (λ _=>U5) (λ _=>.inl rfl) (.inr ⟨_,vs.toArray,_,hk,rfl,rfl,rfl,by rw[ar,lenV];exact hl,by simpa using rv⟩) (λ b u z=>by have z':(U5:gJ HO)=My u:=z;cases z') (λ b z=>absurd rfl z) λ z=>absurd rfl z
 | none =>
  refine core (λ b=>if b=a then My (.frz {cls:=.type "list",data:=.seq vs.toArray} (.lst (ns.map V.int))) else U5) (λ b=>?_) (.inl (.inr ⟨{cls:=.type "list",data:=.seq vs.toArray},ai rfl⟩)) (λ b u z=>?_) (λ b z=>?_) λ _=>hk
  ·by_cases hb:b=a
   ·exact .inr ⟨_,_,ai hb⟩
   ·exact .inl (au hb)
  ·by_cases hb:b=a
   ·have z':=(ai hb).symm.trans z;cases z';subst hb;exact⟨ha,by rw[ah];exact hl,vs,_,rv,ha⟩
   ·have z':=(au hb).symm.trans z;cases z'
  ·by_cases hb:b=a
   ·exact hb
   ·exact absurd (au hb) z
theorem ET {l:PySem.W.OpenLaw}{n k:Nat}{q:Program}{loose:List Str}{XP:(Str->gJ gL)->Heap->Prop}{YP:World->Heap->Prop}{d:DefRec}{K:Params->gK}{CX:World->CXT}{sp:World->Sp}{x:Str}
  (hn:l.most=My n) (hn2:n<=sizeLine) (hdf:d.params.defaults=[]) (hr:jI k callerA)
  (hY:∀ (w:World) (h:Heap),YP w h->(K w.params).In h)
  (F:∀ (w:World) (mg:gG) (fa:Addr) (h:Heap),(K w.params).In h->h.Ns mainGlobals mg->mg d.name=My (.ref fa) ->
   ∃ fd:FuncData,(∀ (s:gM) (u:gL),BindsTo s fd ⟨[u],[]⟩ [(x,u)]) /\
    ∀ base:Heap,(K w.params).In base->base.Ns mainGlobals mg->pg l.prog w (K w.params) mg base (CX w) k fa fd [x] (sp w))
  (hsp:∀ (w:World) (H:Hp) (a:Addr) (ns:List Int),ns.length<=n->Oh H->SqL (K w.params) H a (ns.map V.int)->sp w [.ref a] H (λ v _=>v=.bl U6) λ _ _ _=>False)
  (hCX:∀ (w:World) (H:Hp) (s:gM) (e:gL) (s':gM),CX w [] H s (λ _ _ _=>False) e s'->False) :
  PySem.W.WalkO q loose XP YP l.row.toRowW d [] (λ f vs=>PySem.call f vs):=by
 refine Att.B1 hn hdf λ w s₀ s₁ mg mb fa o pm cd doc a vs ns G Y ho hd hcd hmg hobj hints hlen hg=>?_;have KX:=hY w _ Y;obtain⟨fd,hb,hF⟩:=F w mg fa _ KX G.T.g hmg;exact Hz KX G.T.g G.T.b G.T.builtins G.T.nolimit hg hobj hints (bD hlen hn2) hr hF hb (λ H hO hS=>hsp w H a ns hlen hO hS) λ H e s'=>hCX w H s₁ e s'
def tw (s:Stmt):Arguments:=match s with
 | .FunctionDef _ a _ _ _ _ _ _ _ _=>a
 | _=>{posonlyargs:=[],args:=[],vararg:=U5,kwonlyargs:=[],kw_defaults:=[],kwarg:=U5,defaults:=[]}
def iU (s:Stmt):List Stmt:=match s with
 | .FunctionDef _ _ b _ _ _ _ _ _ _=>b
 | _=>[]
def gY (s:Stmt):Scope:=match s with
 | .FunctionDef _ _ _ _ _ _ sc _ _ _=>sc
 | _=>{kind:=.function,names:=[],isGenerator:=U7,isCoroutine:=U7}
abbrev CX0:CXT:=λ _ _ _ _ _ _=>False
abbrev E0:XK:=λ _ _ _=>False
theorem MY {X:Cx}:Passes CX0 X E0:=λ _ _ _ _ _ _ _ h=>h.elim
structure Fun (K:gK)(x qual:Str)(st:Stmt)(f:Addr)(fd:FuncData):Prop where
 ex:∃ (oc:gL) (od:gJ Addr) (kV doc pm:gL) (an:gJ Addr) (cdv ct:gL) (osl:Array (gJ gL)),
  fd=PySem.W.fnOf x qual (tw st) (iU st) (gY st) .none kV doc pm an cdv ct/\K.lookup f=My ⟨oc,od,.func fd,osl⟩/\PySem.W.codeIn K cdv qual=U6
 kp:PySem.W.keepIn K (.ref f)=U6
section
variable {P:Program}{w:World}{K:gK}{mg:gG}{base:Heap}
theorem Fun.ok {x qual:Str}{st:Stmt}{f:Addr}{fd:FuncData}{N ps:List Str}{k:Nat}{sp:Sp}(F:Fun K x qual st f fd)(S:il N ps (gY st))(len:∀ vs H Q E,sp vs H Q E->vs.length=ps.length)
  (hbody:∀ (cdv:gL) (A:Around) (outer:List Env) (s:gM) (H:Hp) (vs:List V) (Q:VK) (E:XK),jI k (A.deeper (envOfC qual (gY st) s.heap.objs.size f cdv))->sp vs H Q E ->
   ∃ t,PSs (qt CX0 P w K mg base N qual (gY st) f cdv A outer s H E).nox (iU st) t/\t {nx:=λ _ H'=>Q .non H',rt:=Q} (start N vs) H):pg P w K mg base CX0 (k+1) f fd ps sp:=by
 obtain⟨oc,od,kV,doc,pm,an,cdv,ct,osl,rfl,lk,hcd⟩:=F.ex;refine MS lk hcd S len λ A outer s H vs Q E hr hsp=>?_;obtain⟨t,h,q⟩:=hbody cdv A outer s H vs Q E hr hsp;exact⟨t,h.nox,q⟩
theorem Ol {x qual:Str}{st:Stmt}{f:Addr}{oc:gL}{od an:gJ Addr}{osl:Array (gJ gL)}{kV doc pm cdv ct:gL}(l:K.lookup f=My ⟨oc,od,.func (PySem.W.fnOf x qual (tw st) (iU st) (gY st) .none kV doc pm an cdv ct),osl⟩)
  (c:PySem.W.codeIn K cdv qual=U6) (k:PySem.W.keepIn K (.ref f)=U6):Fun K x qual st f (PySem.W.fnOf x qual (tw st) (iU st) (gY st) .none kV doc pm an cdv ct):=⟨⟨oc,od,kV,doc,pm,an,cdv,ct,osl,rfl,l,c⟩,k⟩
end
theorem QQ {A:Around}{k:Nat}(hr:jI k A):A.units+1<cLine:=bN (Nat.add_le_add_left (by decide:1<=64) _) hr.units
section
variable {X:Cx}
theorem pv (i:Nat){x:Str}{pos:Pos}(hN:X.N[i]?=My x:=by rfl)(hv:Vis X.env.scope x:=by trivial)(hd:(x==("__debug__":Str))=U7:=by decide)
  (hcd:(x==("__classdict__":Str))=U7:=by decide):PE X (.Name x pos) (iG i):=G7 hN hv hd hcd
end
theorem KQ {A B:Prop}(h:B):if U7=U6 then A else B:=by rw[au ax];exact h
theorem KR {A B:Prop}(h:A):if U6=U6 then A else B:=by rw[ai rfl];exact h
theorem Om {c A B:Prop}[Decidable c](h1:c->A)(h2:¬ c->B):if c then A else B:=by
 by_cases h:c
 ·rw[ai h];exact h1 h
 ·rw[au h];exact h2 h
def g6 (H H':Hp):Prop:=∀ b o,H b=My o->H' b=My o
theorem g6.refl (H:Hp):g6 H H:=λ _ _ h=>h
theorem g6.trans {H H1 H2:Hp}(a:g6 H H1)(b:g6 H1 H2):g6 H H2:=λ c o h=>b c o (a c o h)
theorem g6.free {H H':Hp}(e:g6 H H'){l:Addr}(h:H' l=Option.none):H l=Option.none:=by
 cases q:H l with
 | none=>rfl
 | some o =>rw[e l o q]at h;cases h
theorem g6.seq {K:gK}{H H':Hp}{a:Addr}{xs:List V}(e:g6 H H')(h:SqL K H a xs):SqL K H' a xs:=by
 rcases h with (h | ⟨o,h⟩) | h
 ·exact .inl (.inl (e _ _ h))
 ·exact .inl (.inr ⟨o,e _ _ h⟩)
 ·exact .inr h
section
variable {κ:Type}[DecidableEq κ]
theorem AA:∀ {l:List κ} {k:κ},l.Nodup->¬ k∈l->(l++[k]).Nodup
 | [],k,_,_=>by simp
 | a::r,k,h,hk=>by
  obtain⟨h1,h2⟩:=bC.mp h;show(a::(r++[k])).Nodup;refine bC.mpr ⟨λ m=>?_,AA h2 λ m=>hk (aD.mpr (Or.inr m))⟩;rcases a_.mp m with q | q
  ·exact h1 q
  ·exact hk (aD.mpr (Or.inl (bp.mp q).symm))
end
end L2
namespace Tb
open PySem
def Ri (xs:Array Nat):Prop:=∀ (a b x y:Nat),a<b->xs[a]?=My x->xs[b]?=My y->x<y
def Bel (xs:Array Nat)(j r:Nat):Prop:=r<=xs.size/\(∀ k x,k<r->xs[k]?=My x->x<j)/\(∀ k x,r<=k->xs[k]?=My x->j<=x)
theorem xi {xs:Array Nat}{j:Nat}(R:Ri xs):∀ (fuel lo hi:Nat),hi<=lo+fuel->lo<=hi->hi<=xs.size->(∀ k x,k<lo->xs[k]?=My x->x<j)->(∀ k x,hi<=k->xs[k]?=My x->j<=x)->Bel xs j (SetTable.below.go xs j fuel lo hi)
 | 0,lo,hi,h1,h2,h3,h4,h5=>by
  have e:lo=hi:=by lia
  subst e;exact⟨h3,h4,h5⟩
 | fuel+1,lo,hi,h1,h2,h3,h4,h5=>by
  unfold SetTable.below.go;by_cases hlt:lo<hi
  ·rw[ai hlt]
   have hm:(lo+hi) / 2<xs.size:=by lia
   obtain⟨v,hv⟩:∃ v,xs[(lo+hi) / 2]?=My v:=⟨xs[(lo+hi) / 2],by simp[hm]⟩;have hd:xs.getD ((lo+hi) / 2) j=v:=by rw[bL,hv];rfl
   dsimp only;rw[hd];by_cases hj:v<j
   ·rw[ai hj]
    refine xi R fuel _ _ (by lia) (by lia) h3 (λ k x hk e=>?_) h5;by_cases hk':k=(lo+hi) / 2
    ·subst hk';rw[hv]at e;cases e;exact hj
    ·exact Nat.lt_trans (R k _ x v (by lia) e hv) hj
   ·rw[au hj]
    refine xi R fuel _ _ (by lia) (by lia) (by lia) h4 (λ k x hk e=>?_);by_cases hk':k=(lo+hi) / 2
    ·subst hk';rw[hv]at e;cases e;lia
    ·have:=R _ k v x (by lia) hv e;lia
  ·rw[au hlt]
   have e:lo=hi:=by lia
   subst e;exact⟨h3,h4,h5⟩
theorem xj {xs:Array Nat}(R:Ri xs)(j:Nat):Bel xs j (Va xs j) :=
 xi R xs.size 0 xs.size (by lia) (aT _) (aw _) (λ k x hk=>absurd hk (dF _)) λ k x hk e=>by rw[cX hk]at e;cases e
theorem below_at {xs:Array Nat}(R:Ri xs){i j:Nat}(e:xs[i]?=My j):Va xs j=i:=by
 obtain⟨h1,h2,h3⟩:=xj R j;rcases fg i (Va xs j) with h | h | h
 ·exact absurd (h2 i j h e) (aV _)
 ·exact h.symm
 ·have hi:i<xs.size:=(cp.mp e).1
  have hr:Va xs j<xs.size:=by lia
  have hv:xs[Va xs j]?=My xs[Va xs j]:=by simp[hr]
  have a:=R _ _ _ _ h hv e;have b:=h3 _ _ (aw _) hv;lia
def Occ (t:SetTable)(j:Nat):Prop:=∃ i:Nat,t.place[i]?=My j
theorem uP {t:SetTable}(R:Ri t.place){i j:Nat}(e:t.place[i]?=My j):t.slot j=.live i:=by unfold SetTable.slot;rw[below_at R e];dsimp only;rw[e];simp
theorem DF {t:SetTable}(hd:t.dummies=#[]){j:Nat}(e:¬ Occ t j):t.slot j=.empty:=by
 unfold SetTable.slot;dsimp only;rw[au,hd]
 ·have:SetTable.has #[] j=U7:=by
   unfold SetTable.has;simp
  rw[this];rfl
 ·intro h;exact e ⟨_,by simpa using h⟩
def adv (mask:Nat)(p:SetTable.Probe):SetTable.Probe :=
 if p.more>0 then {p with j:=p.j+1,more:=p.more-1} else {p with j:=(SetTable.leap mask p.i p.perturb).1,more:=Vb mask (SetTable.leap mask p.i p.perturb).1-(SetTable.leap mask p.i p.perturb).1,i:=(SetTable.leap mask p.i p.perturb).1,perturb:=(SetTable.leap mask p.i p.perturb).2}
theorem xk (t:SetTable)(p:SetTable.Probe):t.advance p=adv t.mask p:=by unfold SetTable.advance adv;split<;>rfl
def walk (mask:Nat)(p:SetTable.Probe):Nat->SetTable.Probe
 | 0=>p
 | n+1=>adv mask (walk mask p n)
theorem HA (mask:Nat)(p:SetTable.Probe):∀ n,walk mask (adv mask p) n=walk mask p (n+1)
 | 0=>rfl
 | n+1=>by show adv mask (walk mask (adv mask p) n)=adv mask (walk mask p (n+1));rw[HA mask p n]
theorem tE (mask:Nat)(p:SetTable.Probe)(a:Nat):∀ n,walk mask (walk mask p a) n=walk mask p (a+n)
 | 0=>rfl
 | n+1=>by show adv mask (walk mask (walk mask p a) n)=adv mask (walk mask p (a+n));rw[tE mask p a n]
def st (mask:Nat)(h:Int):SetTable.Probe:={j:=Vc h % (mask+1),more:=Vb mask (Vc h % (mask+1))-Vc h % (mask+1),i:=Vc h % (mask+1),perturb:=Vc h,dummy:=U5}
theorem F7 (mask:Nat)(p:SetTable.Probe):(adv mask p).dummy=p.dummy:=by unfold adv;split<;>rfl
theorem xl (mask:Nat)(p:SetTable.Probe):∀ n,(walk mask p n).dummy=p.dummy
 | 0=>rfl
 | n+1=>(F7 _ _).trans (xl mask p n)
def bdy (mask i perturb:Nat):SetTable.Probe:={j:=i,more:=Vb mask i-i,i:=i,perturb:=perturb,dummy:=U5}
theorem F8 (mask i:Nat):Vb mask i-i<=9:=by unfold Vb;split<;>lia
theorem DG (mask i perturb:Nat):∀ k,k<=Vb mask i-i->walk mask (bdy mask i perturb) k={j:=i+k,more:=Vb mask i-i-k,i:=i,perturb:=perturb,dummy:=U5}
 | 0,_=>rfl
 | k+1,h=>by show adv mask (walk mask (bdy mask i perturb) k)=_;rw[DG mask i perturb k (by lia)];unfold adv;rw[ai (by show Vb mask i-i-k>0;lia)];show SetTable.Probe.mk (i+k+1) (Vb mask i-i-k-1) i perturb U5=SetTable.Probe.mk (i+(k+1)) (Vb mask i-i-(k+1)) i perturb U5;congr 1
theorem B2 (mask i perturb:Nat):walk mask (bdy mask i perturb) (Vb mask i-i+1)=bdy mask (SetTable.leap mask i perturb).1 (SetTable.leap mask i perturb).2:=by show adv mask (walk mask (bdy mask i perturb) (Vb mask i-i))=_;rw[DG mask i perturb _ (aw _)];unfold adv;rw[au (by show ¬ Vb mask i-i-(Vb mask i-i)>0;lia)];rfl
def lp (mask:Nat)(i perturb:Nat):Nat->Nat×Nat
 | 0=>(i,perturb)
 | n+1=>SetTable.leap mask (lp mask i perturb n).1 (lp mask i perturb n).2
theorem EU (mask i perturb:Nat):∀ L,∃ n,n<=10*L/\walk mask (bdy mask i perturb) n=bdy mask (lp mask i perturb L).1 (lp mask i perturb L).2
 | 0=>⟨0,aw _,rfl⟩
 | L+1=>by
  obtain⟨n,hn,e⟩:=EU mask i perturb L;refine⟨n+(Vb mask (lp mask i perturb L).1-(lp mask i perturb L).1+1),?_,?_⟩
  ·have:=F8 mask (lp mask i perturb L).1;lia
  ·rw[<-tE,e];exact B2 _ _ _
theorem EV (mask i perturb:Nat):∀ L,(lp mask i perturb L).2=perturb / 32 ^ L
 | 0=>by simp[lp]
 | L+1=>by show(lp mask i perturb L).2 / 32=_;rw[EV mask i perturb L,Nat.div_div_eq_div_mul,eu]
theorem DI (mask i perturb a:Nat):∀ L,lp mask i perturb (a+L)=lp mask (lp mask i perturb a).1 (lp mask i perturb a).2 L
 | 0=>rfl
 | L+1=>by show SetTable.leap mask (lp mask i perturb (a+L)).1 (lp mask i perturb (a+L)).2=_;rw[DI mask i perturb a L];rfl
def lc (mask:Nat):Nat->Nat
 | 0=>0
 | n+1=>(lc mask n*5+1) % (mask+1)
def Mk (mask:Nat):Prop:=mask=7\/mask=31\/mask=127
theorem KS:∀ j,j<8->∃ k,k<8/\lc 7 k=j:=by decide +kernel
theorem HB:∀ j,j<32->∃ k,k<32/\lc 31 k=j:=by decide +kernel
theorem F9:∀ j,j<128->∃ k,k<128/\lc 127 k=j:=by decide +kernel
theorem KU:lc 7 8=0/\lc 31 32=0/\lc 127 128=0:=by decide +kernel
theorem HC {mask:Nat}(m:Mk mask){j:Nat}(h:j<=mask):∃ k,k<=mask/\lc mask k=j:=by
 rcases m with rfl | rfl | rfl
 ·obtain⟨k,h1,h2⟩:=KS j (by lia);exact⟨k,by lia,h2⟩
 ·obtain⟨k,h1,h2⟩:=HB j (by lia);exact⟨k,by lia,h2⟩
 ·obtain⟨k,h1,h2⟩:=F9 j (by lia);exact⟨k,by lia,h2⟩
theorem HD {mask:Nat}(m:Mk mask):∀ n,lc mask (mask+1+n)=lc mask n
 | 0=>by
  have:=KU;rcases m with rfl | rfl | rfl
  ·exact this.1
  ·exact this.2.1
  ·exact this.2.2
 | n+1=>by show(lc mask (mask+1+n)*5+1) % (mask+1)=(lc mask n*5+1) % (mask+1);rw[HD m n]
theorem MZ {mask:Nat}(a:Nat):∀ L,(lp mask (lc mask a) 0 L).1=lc mask (a+L)/\(lp mask (lc mask a) 0 L).2=0
 | 0=>⟨rfl,rfl⟩
 | L+1=>by
  obtain⟨h1,h2⟩:=MZ (mask:=mask) a L;refine⟨?_,?_⟩
  ·show((lp mask (lc mask a) 0 L).1*5+1+(lp mask (lc mask a) 0 L).2 / 32) % (mask+1)=(lc mask (a+L)*5+1) % (mask+1);rw[h1,h2]
  ·show(lp mask (lc mask a) 0 L).2 / 32=0;rw[h2]
theorem KW (h:Int):Vc h<2 ^ 64:=by unfold Vc;have h1:=bW h (show(2 ^ 64:Int)≠0 by decide);have h2:=cC h (show(0:Int)<2 ^ 64 by decide);lia
theorem HE {mask:Nat}(m:Mk mask)(i:Nat)(hi:i<=mask)(h:Int){j:Nat}(hj:j<=mask):∃ L,L<SetTable.turns mask/\(lp mask i (Vc h) L).1=j:=by
 have hp:(lp mask i (Vc h) 13).2=0:=by rw[EV];have:=KW h;exact Nat.div_eq_of_lt (aG this (by decide))
 have hlt:∀ L,(lp mask i (Vc h) (L+1)).1<=mask:=λ L=>by show((lp mask i (Vc h) L).1*5+1+(lp mask i (Vc h) L).2 / 32) % (mask+1)<=mask;exact cz (fy _ (gm _))
 obtain⟨a,ha,ea⟩:=HC m (hlt 12);obtain⟨b,hb,eb⟩:=HC m hj;obtain⟨L,hL,eL⟩:∃ L,L<=mask/\lc mask (a+L)=j:=by
  by_cases hab:a<=b
  ·exact⟨b-a,by lia,by rw[show a+(b-a)=b by lia];exact eb⟩
  ·refine⟨mask+1+b-a,by lia,?_⟩;rw[show a+(mask+1+b-a)=mask+1+b by lia,HD m];exact eb
 refine⟨13+L,by unfold SetTable.turns;lia,?_⟩;rw[DI,hp,<-ea];rw[(MZ a L).1];exact eL
def Reach (mask:Nat)(h:Int)(occ:Nat->Prop)(j:Nat):Prop:=∃ n,(walk mask (st mask h) n).j=j/\∀ m,m<n->occ (walk mask (st mask h) m).j
theorem Reach.mono {mask:Nat}{h:Int}{occ occ':Nat->Prop}{j:Nat}(r:Reach mask h occ j)(k:∀ x,occ x->occ' x):Reach mask h occ' j :=
 let ⟨n,e,a⟩:=r
 ⟨n,e,λ m hm=>k _ (a m hm)⟩
structure TOk (t:SetTable)(hs:List Int):Prop where
 m:Mk t.mask
 d:t.dummies=#[]
 ri:Ri t.place
 le:∀ (i j:Nat),t.place[i]?=My j->j<=t.mask
 sz:t.place.size=hs.length
 ro:t.place.size<=t.mask
 rc:∀ (i j:Nat) (h:Int),t.place[i]?=My j->hs[i]?=My h->Reach t.mask h (Occ t) j
theorem bits_le (mask:Nat)(h:Int):Vc h % (mask+1)<=mask:=cz (fy _ (gm _))
theorem xm {α:Type}[BEq α][LawfulBEq α]:∀ (l l':List α),l.Nodup->(∀ x,x∈l->x∈l')->l.length<=l'.length
 | [],l',_,_=>aT _
 | a::r,l',hn,hs=>by obtain⟨h1,h2⟩:=bC.mp hn;have ha:=hs a aB;have:=xm r (l'.erase a) h2 λ x hx=>(List.mem_erase_of_ne (show x≠a from λ e=>h1 (e▸hx))).mpr (hs x (ay _ hx));rw[List.length_erase_of_mem ha]at this;have hpos:0<l'.length:=List.length_pos_of_mem ha;rw[bf];lia
theorem F_ {xs:Array Nat}{mask:Nat}(R:Ri xs)(hs:xs.size<=mask):∃ j,j<=mask/\¬ ∃ i:Nat,xs[i]?=My j:=by
 refine ba λ hn=>?_;have all:∀ j,j<=mask->j∈xs.toList:=λ j hj=>by refine ba λ hm=>hn ⟨j,hj,λ⟨i,e⟩=>hm ?_⟩;rw[<-bh]at e;exact bt e
 have:=xm (U8 (mask+1)) xs.toList cZ λ j hj=>all j (cz (aC.mp hj));simp at this;lia
theorem KY {t:SetTable}{hs:List Int}(T:TOk t hs)(h:Int):∃ e,e<10*SetTable.turns t.mask/\¬ Occ t (walk t.mask (st t.mask h) e).j:=by
 obtain⟨j,hj,hn⟩:=F_ T.ri T.ro;obtain⟨L,hL,e⟩:=HE T.m _ (bits_le t.mask h) h hj;obtain⟨n,hn',e2⟩:=EU t.mask (Vc h % (t.mask+1)) (Vc h) L;refine⟨n,by lia,?_⟩;have e3:(walk t.mask (st t.mask h) n).j=j:=by have:walk t.mask (st t.mask h) n=_:=e2;rw[this];exact e
 rw[e3];exact hn
theorem least {P:Nat->Prop}{e:Nat}(h:P e):∃ n,n<=e/\P n/\∀ m,m<n->¬ P m:=by
 induction e using Nat.strongRecOn with
 | ind e ih =>
  by_cases q:∃ m,m<e/\P m
  ·obtain⟨m,hm,pm⟩:=q;obtain⟨n,a,b,c⟩:=ih m hm pm;exact⟨n,by lia,b,c⟩
  ·exact⟨e,aw _,h,λ m hm pm=>q ⟨m,hm,pm⟩⟩
theorem Ga {t:SetTable}{hs:List Int}(T:TOk t hs)(h:Int):∃ e,e<10*SetTable.turns t.mask/\¬ Occ t (walk t.mask (st t.mask h) e).j/\∀ m,m<e->Occ t (walk t.mask (st t.mask h) m).j:=by obtain⟨e,he,hn⟩:=KY T h;obtain⟨n,h1,h2,h3⟩:=least (P:=λ n=>¬ Occ t (walk t.mask (st t.mask h) n).j) hn;exact⟨n,by lia,h2,λ m hm=>ba (h3 m hm)⟩
theorem B3 {t:SetTable}{hs:List Int}(T:TOk t hs){hashAt:Nat->Int}{h:Int}{e:Nat}(he:¬ Occ t (walk t.mask (st t.mask h) e).j)(hb:∀ m,m<e->Occ t (walk t.mask (st t.mask h) m).j) :
  ∀ (fuel n:Nat),n<=e->e<n+fuel->SetTable.probe.go t hashAt h fuel (walk t.mask (st t.mask h) n)=My (.empty (walk t.mask (st t.mask h) e).j U5)/\(∀ m,n<=m->m<e->∀ i:Nat,t.place[i]?=My (walk t.mask (st t.mask h) m).j->hashAt i≠h) \/
   ∃ m i:Nat,n<=m/\m<e/\t.place[i]?=My (walk t.mask (st t.mask h) m).j/\hashAt i=h/\(∀ m',n<=m'->m'<m->∀ i:Nat,t.place[i]?=My (walk t.mask (st t.mask h) m').j->hashAt i≠h) /\
    SetTable.probe.go t hashAt h fuel (walk t.mask (st t.mask h) n)=My (.candidate (walk t.mask (st t.mask h) m).j i (walk t.mask (st t.mask h) (m+1)))
 | 0,n,h1,h2=>by lia
 | fuel+1,n,h1,h2=>by
  by_cases q:n=e
  ·subst q;refine .inl ⟨?_,λ m a b=>by lia⟩;unfold SetTable.probe.go;rw[DF T.d he];dsimp only;rw[xl];rfl
  ·obtain⟨i,hi⟩:=hb n (by lia)
   by_cases hh:hashAt i=h
   ·refine .inr ⟨n,i,aw _,by lia,hi,hh,λ m' a b=>by lia,?_⟩;unfold SetTable.probe.go;rw[uP T.ri hi];dsimp only;rw[ai (by simpa using hh),xk];rfl
   ·have stp:SetTable.probe.go t hashAt h (fuel+1) (walk t.mask (st t.mask h) n)=SetTable.probe.go t hashAt h fuel (walk t.mask (st t.mask h) (n+1)):=by
     rw[SetTable.probe.go];rw[uP T.ri hi];dsimp only;rw[au (by simpa using hh),xk];rfl
    have skip:∀ m',n<=m'->¬ n+1<=m'->∀ i:Nat,t.place[i]?=My (walk t.mask (st t.mask h) m').j->hashAt i≠h:=λ m' a b i' e'=>by
     have:m'=n:=by lia
     subst this;have:i'=i:=(below_at T.ri e').symm.trans (below_at T.ri hi);rw[this];exact hh
    rcases B3 T he hb fuel (n+1) (by lia) (by lia) with⟨a,b⟩ | ⟨m,i',a1,a2,a3,a4,a5,a6⟩
    ·refine .inl ⟨stp.trans a,λ m hm1 hm2=>?_⟩
     by_cases hm:n+1<=m
     ·exact b m hm hm2
     ·exact skip m hm1 hm
    ·refine .inr ⟨m,i',by lia,a2,a3,a4,λ m' hm1 hm2=>?_,stp.trans a6⟩
     by_cases hm:n+1<=m'
     ·exact a5 m' hm hm2
     ·exact skip m' hm1 hm
theorem EW {α:Type}(xs:Array α)(p:Nat)(x:α)(hp:p<=xs.size)(k:Nat):(SetTable.insertAt xs p x)[k]?=if k<p then xs[k]? else if k=p then My x else xs[k-1]?:=by
 rw[<-bh,eP,<-bh,<-bh];have hl:(xs.toList.take p).length=p:=by rw[bX];simp;lia
 by_cases h1:k<p
 ·rw[ai h1,bS (by lia),eM h1]
 ·rw[au h1,bM (by lia),hl]
  by_cases h2:k=p
  ·rw[ai h2,h2,Nat.sub_self];rfl
  ·rw[au h2];obtain⟨c,hc⟩:∃ c,k-p=c+1:=⟨k-p-1,by lia⟩;rw[hc,aS,List.getElem?_drop];congr 1;lia
theorem tF {α:Type}(xs:Array α)(p:Nat)(x:α):(SetTable.insertAt xs p x).size=xs.size+1:=by have:=(SetTable.insertAt_perm xs p x).length_eq;simpa using this
theorem Oo {t:SetTable}{hs:List Int}(T:TOk t hs){h:Int}{e:Nat}(he:¬ Occ t (walk t.mask (st t.mask h) e).j)(hb:∀ m,m<e->Occ t (walk t.mask (st t.mask h) m).j)(hj:(walk t.mask (st t.mask h) e).j<=t.mask)(hr:t.place.size+1<=t.mask){led plain:Bool} :
  TOk {(t.put (walk t.mask (st t.mask h) e).j).1 with plain:=plain} ((SetTable.insertAt hs.toArray (Va t.place (walk t.mask (st t.mask h) e).j) h).toList):=by
 generalize hjj:(walk t.mask (st t.mask h) e).j=j at *;obtain⟨b1,b2,b3⟩:=xj T.ri j;generalize hp:Va t.place j=p at *;have pl:((t.put j).1).place=SetTable.insertAt t.place p j:=by rw[<-hp];rfl
 have dm:((t.put j).1).dummies=#[]:=by show(if SetTable.has t.dummies j then _ else _)=_;rw[au,T.d];rw[T.d];simp[SetTable.has]
 have get:=EW t.place p j b1;have old:∀ x,Occ t x->Occ {(t.put j).1 with plain:=plain} x:=λ x ⟨i,hi⟩=>by
  by_cases hip:i<p
  ·exact⟨i,by show(t.put j).1.place[i]?=_;rw[pl,get,ai hip];exact hi⟩
  ·refine⟨i+1,?_⟩;show(t.put j).1.place[i+1]?=_;rw[pl,get,au (by lia),au (by lia)];exact hi
 have gh:=EW hs.toArray p h (by rw[ar,<-T.sz];exact b1);refine⟨T.m,dm,?_,λ i x hx=>?_,?_,?_,λ i x h' hx hh=>?_⟩
 ·intro a b x y hab hx hy
  have hx:(t.put j).1.place[a]?=My x:=hx;have hy:(t.put j).1.place[b]?=My y:=hy;rw[pl,get]at hx hy;by_cases ha:a<p
  ·rw[ai ha]at hx
   by_cases hb':b<p
   ·rw[ai hb']at hy;exact T.ri a b x y hab hx hy
   ·rw[au hb']at hy
    by_cases hb2:b=p
    ·rw[ai hb2]at hy;cases hy;exact b2 a x ha hx
    ·rw[au hb2]at hy;exact T.ri a (b-1) x y (by lia) hx hy
  ·rw[au ha]at hx
   rw[au (by lia),au (by lia)]at hy;by_cases ha2:a=p
   ·rw[ai ha2]at hx;cases hx
    have:=b3 (b-1) y (by lia) hy;rcases Nat.lt_or_eq_of_le this with q | q
    ·exact q
    ·exact absurd ⟨b-1,by rw[q];exact hy⟩ he
   ·rw[au ha2]at hx;exact T.ri (a-1) (b-1) x y (by lia) hx hy
 ·have hx:(t.put j).1.place[i]?=My x:=hx
  rw[pl,get]at hx;show x<=t.mask;by_cases h1:i<p
  ·rw[ai h1]at hx;exact T.le i x hx
  ·rw[au h1]at hx
   by_cases h2:i=p
   ·rw[ai h2]at hx;cases hx;exact hj
   ·rw[au h2]at hx;exact T.le _ x hx
 ·show(t.put j).1.place.size=_;rw[pl,tF,bA,tF,T.sz];simp
 ·show(t.put j).1.place.size<=t.mask;rw[pl,tF];exact hr
 ·have hx:(t.put j).1.place[i]?=My x:=hx
  rw[bh,gh]at hh;rw[pl,get]at hx;show Reach t.mask h' _ x;by_cases h1:i<p
  ·rw[ai h1]at hx hh;exact(T.rc i x h' hx (by simpa using hh)).mono old
  ·rw[au h1]at hx hh
   by_cases h2:i=p
   ·rw[ai h2]at hx hh;cases hx;cases hh;exact⟨e,hjj,λ m hm=>old _ (hb m hm)⟩
   ·rw[au h2]at hx hh;exact(T.rc (i-1) x h' hx (by simpa using hh)).mono old
def vR (owner:Array (gJ Nat))(x:Nat):Prop:=∃ i:Nat,owner[x]?=My (My i)
theorem getD_none {owner:Array (gJ Nat)}{x:Nat}(hx:x<owner.size):(owner.getD x (My 0)).isNone=U6↔¬ vR owner x:=by
 rw[bL];have e:owner[x]?=My owner[x]:=by simp[hx]
 rw[e,eA];unfold vR;rw[e];cases owner[x] with
 | none=>simp
 | some i=>simp
theorem qE {mask i:Nat}(hi:i<=mask):Vb mask i<=mask/\i<=Vb mask i:=by unfold Vb;split<;>lia
theorem EX {mask:Nat}{owner:Array (gJ Nat)}(hsz:owner.size=mask+1){h:Int}:∀ (fuel i perturb n0:Nat),walk mask (st mask h) n0=bdy mask i perturb->i<=mask->(∀ m,m<n0->vR owner (walk mask (st mask h) m).j) ->
  (∃ L,L<fuel/\¬ vR owner (lp mask i perturb L).1)->∃ j,SetTable.layClean.free mask owner fuel i perturb=My j/\¬ vR owner j/\j<=mask/\Reach mask h (vR owner) j
 | 0,i,perturb,n0,_,_,_,⟨L,hL,_⟩=>absurd hL (dF _)
 | fuel+1,i,perturb,n0,hw,hi,hb,⟨L,hL,hl⟩=>by
  obtain⟨r1,r2⟩:=qE hi;have at_k:∀ k,k<=Vb mask i-i->(walk mask (st mask h) (n0+k)).j=i+k:=λ k hk=>by rw[<-tE,hw,DG mask i perturb k hk]
  unfold SetTable.layClean.free;cases q:(U8 (Vb mask i+1-i)).find? λ k=>(owner.getD (i+k) (My 0)).isNone with
  | some k =>
   obtain⟨q1,q2,q3⟩:=List.find?_range_eq_some.mp q;have q2:=aC.mp q2;refine⟨i+k,rfl,(getD_none (by lia)).mp q1,by lia,n0+k,at_k k (by lia),λ m hm=>?_⟩;by_cases h1:m<n0
   ·exact hb m h1
   ·obtain⟨c,rfl⟩:∃ c,m=n0+c:=⟨m-n0,by lia⟩;rw[at_k c (by lia)];refine ba λ hn=>?_;have:=q3 c (by lia);rw[(getD_none (by lia)).mpr hn]at this;simp at this
  | none =>
   have all:=List.find?_range_eq_none.mp q;have occ:∀ k,k<=Vb mask i-i->vR owner (i+k):=λ k hk=>by refine ba λ hn=>?_;have:=all k (by lia);rw[(getD_none (by lia)).mpr hn]at this;simp at this
   dsimp only;refine EX hsz fuel _ _ (n0+(Vb mask i-i+1)) ?_ ?_ (λ m hm=>?_) ?_
   ·rw[<-tE,hw,B2]
   ·exact cz (fy _ (gm _))
   ·by_cases h1:m<n0
    ·exact hb m h1
    ·obtain⟨c,rfl⟩:∃ c,m=n0+c:=⟨m-n0,by lia⟩;rw[at_k c (by lia)];exact occ c (by lia)
   ·cases L with
    | zero=>exact absurd (occ 0 (aT _)) hl
    | succ L =>refine⟨L,by lia,?_⟩;have e:=DI mask i perturb 1 L;rw[Nat.add_comm 1 L]at e;rw[e]at hl;exact hl
structure DJ (mask:Nat)(hs:List Int)(k:Nat)(owner:Array (gJ Nat)):Prop where
 sz:owner.size=mask+1
 lt:∀ (j i:Nat),owner[j]?=My (My i)->i<k
 one:∀ (i:Nat),i<k->∃ j:Nat,owner[j]?=My (My i)
 inj:∀ (j j' i:Nat),owner[j]?=My (My i)->owner[j']?=My (My i)->j=j'
 rc:∀ (j i:Nat) (h:Int),owner[j]?=My (My i)->hs[i]?=My h->Reach mask h (vR owner) j
theorem DJ.room {mask:Nat}{hs:List Int}{k:Nat}{owner:Array (gJ Nat)}(O:DJ mask hs k owner)(hk:k<=mask):∃ j,j<=mask/\¬ vR owner j:=by
 refine ba λ hn=>?_;have all:∀ j,j<=mask->vR owner j:=λ j hj=>ba λ h=>hn ⟨j,hj,h⟩;let f:Nat->Nat:=λ j=>((owner[j]?).getD U5).getD 0;have hf:∀ j,j<=mask->owner[j]?=My (My (f j)):=λ j hj=>by obtain⟨i,e⟩:=all j hj;show owner[j]?=My (My (((owner[j]?).getD U5).getD 0));rw[e];rfl
 have nd:((U8 (mask+1)).map f).Nodup:=by rw[aJ,bq];refine(aJ.mp cZ).imp_of_mem λ{a b} ha hb ne e=>ne ?_;have ha:=hf a (cz (aC.mp ha));have hb:=hf b (cz (aC.mp hb));rw[e]at ha;exact O.inj a b _ ha hb
 have:=xm _ (U8 k) nd λ x hx=>by obtain⟨j,hj,e⟩:=aE.mp hx;rw[<-e];exact aC.mpr (O.lt j _ (hf j (cz (aC.mp hj))))
 simp at this;lia
set_option tactic.hygienic true in
theorem B4 {mask:Nat}(m:Mk mask)(hs:List Int)(hn:hs.length<=mask):∀ (rest pre:List Int) (owner:Array (gJ Nat)),hs=pre++rest->DJ mask hs pre.length owner ->
  ∃ owner',(rest.foldl (λ(acc:gJ (Array (gJ Nat)×Nat)) h=>do
   let (owner,k)<-acc;let j<-SetTable.layClean.free mask owner (SetTable.turns mask) (Vc h % (mask+1)) (Vc h)
   pure (owner.setIfInBounds j (My k),k+1)) (My (owner,pre.length)))=My (owner',hs.length)/\DJ mask hs hs.length owner'
 | [],pre,owner,e,O=>by rw[bB]at e;subst e;exact⟨owner,rfl,O⟩
 | h::rest,pre,owner,e,O=>by
  have hl:pre.length<hs.length:=by rw[e];simp
  obtain⟨j0,hj0,hn0⟩:=O.room (by lia);obtain⟨L,hL,eL⟩:=HE m _ (bits_le mask h) h hj0;obtain⟨j,hf,nj,hj,rj⟩:=EX O.sz (h:=h) (SetTable.turns mask) _ _ 0 rfl (bits_le mask h) (λ m hm=>absurd hm (dF _)) ⟨L,hL,by rw[eL];exact hn0⟩;have hjs:j<owner.size:=by rw[O.sz];lia
  have get:∀ x:Nat,(owner.setIfInBounds j (My pre.length))[x]?=if j=x then My (My pre.length) else owner[x]?:=λ x=>by
   rw[Array.getElem?_setIfInBounds];by_cases q:j=x
   ·subst q;simp[hjs]
   ·simp[q]
  have mono:∀ x,vR owner x->vR (owner.setIfInBounds j (My pre.length)) x:=λ x ⟨i,hx⟩=>by
   by_cases q:j=x
   ·exact⟨_,by rw[get,ai q]⟩
   ·exact⟨i,by rw[get,au q];exact hx⟩
  have O':DJ mask hs (pre++[h]).length (owner.setIfInBounds j (My pre.length)):=by
   rw[aK,bG];refine⟨by rw[Array.size_setIfInBounds];exact O.sz,λ x i hx=>?_,λ i hi=>?_,λ x y i hx hy=>?_,λ x i h' hx hh=>?_⟩
   ·rw[get]at hx
    split at hx
    ·cases hx;lia
    ·have:=O.lt x i hx;lia
   ·by_cases q:i=pre.length
    ·exact⟨j,by rw[get,ai rfl,q]⟩
    ·obtain⟨x,hx⟩:=O.one i (by lia);exact⟨x,by rw[get,au (λ z=>nj ⟨i,by rw[z];exact hx⟩)];exact hx⟩
   ·rw[get]at hx hy
    split at hx
    ·cases hx
     split at hy
     ·lia
     ·exact absurd (O.lt y _ hy) (aV _)
    ·split at hy
     ·cases hy;exact absurd (O.lt x _ hx) (aV _)
     ·exact O.inj x y i hx hy
   ·rw[get]at hx
    split at hx
    ·rename_i q
     cases hx;subst q;have:h'=h:=by rw[e,bM (aw _),Nat.sub_self]at hh;simpa using hh.symm
     subst this;exact rj.mono mono
    ·exact(O.rc x i h' hx hh).mono mono
  obtain⟨owner',e',O''⟩:=B4 m hs hn rest (pre++[h]) _ (by rw[e,cy];rfl) O';refine⟨owner',?_,O''⟩;rw[cu,<-e'];congr 1;show(do let j<-SetTable.layClean.free mask owner (SetTable.turns mask) (Vc h % (mask+1)) (Vc h);pure (owner.setIfInBounds j (My pre.length),pre.length+1))=_;rw[hf,aK,bG];rfl
theorem Oq {mask:Nat}(m:Mk mask)(hs:List Int)(hn:hs.length<=mask):∃ owner,SetTable.layClean mask hs.toArray=My owner/\DJ mask hs hs.length owner:=by
 have O0:DJ mask hs ([]:List Int).length (Array.replicate (mask+1) U5):=by
  have no:∀ (x i:Nat),¬ (Array.replicate (mask+1) (U5:gJ Nat))[x]?=My (My i):=λ x i h=>by rw[Array.getElem?_replicate]at h;split at h<;>cases h
  exact⟨by simp,λ x i h=>(no x i h).elim,λ i hi=>absurd hi (dF _),λ x y i h=>(no x i h).elim,λ x i h' h=>(no x i h).elim⟩
 obtain⟨owner,e,O⟩:=B4 m hs hn hs [] _ rfl O0;refine⟨owner,?_,O⟩;unfold SetTable.layClean;rw[List.foldl_toArray];have e:hs.foldl _ (My (Array.replicate (mask+1) U5,0))=My (owner,hs.length):=e;rw[e];rfl
theorem DK {α:Type}(hs:List α)(d:α):∀ (l:List Nat),(∀ i∈l,i<hs.length)->l.filterMap (λ i=>hs[i]?)=l.map λ i=>hs.getD i d
 | [],_=>rfl
 | i::r,h=>by
  have hi:=h i aB;rw[aI,<-DK hs d r λ x hx=>h x (ay _ hx),bK];have e:hs[i]?=My (hs.getD i d):=by rw[aq];simp[hi]
  rw[e]
theorem xn (owner:Array (gJ Nat)):∀ (l:List Nat),(l.filterMap λ j=>(owner.getD j U5).map (j,·)).map (·.1)=l.filter λ j=>(owner.getD j U5).isSome
 | []=>rfl
 | j::r=>by
  rw[bK,List.filter_cons];cases e:owner.getD j U5 with
  | none=>simpa using xn owner r
  | some i=>simpa using xn owner r
theorem KZ {mask:Nat}(m:Mk mask)(hs:List Int)(hn:hs.length<=mask)(finger moves:Nat)(led plain:Bool):∃ t order,SetTable.laid mask finger moves led plain hs.toArray=My (t,order)/\t.mask=mask/\t.led=led/\t.plain=plain /\
  List.Perm order.toList (U8 hs.length)/\TOk t (order.toList.filterMap λ i=>hs[i]?):=by
 obtain⟨owner,e,O⟩:=Oq m hs hn;let live:=(U8 (mask+1)).filterMap λ j=>(owner.getD j U5).map (j,·);have mem:∀ j i,(j,i)∈live↔j<=mask/\owner[j]?=My (My i):=λ j i=>by
  show(j,i)∈(U8 (mask+1)).filterMap _↔_;rw[de];have gd:∀ (x y:Nat),owner.getD x U5=My y↔owner[x]?=My (My y):=λ x y=>by
   rw[bL];cases owner[x]? with
   | none=>simp
   | some v=>simp
  refine⟨λ⟨a,ha,q⟩=>?_,λ⟨h1,h2⟩=>⟨j,aC.mpr (by lia),by rw[(gd j i).mpr h2];rfl⟩⟩;cases w:owner.getD a U5 with
  | none=>rw[w]at q;cases q
  | some y =>rw[w]at q;have q:(a,y)=(j,i):=ao q;cases q;exact⟨cz (aC.mp ha),(gd _ _).mp w⟩
 have fst:live.map (·.1)=(U8 (mask+1)).filter λ j=>(owner.getD j U5).isSome:=xn owner _;have pw:(live.map (·.1)).Pairwise (·<·):=by rw[fst];exact fG _ fh
 have pw2:live.Pairwise λ a b=>a.1<b.1:=bq.mp pw;have nd:(live.map (·.2)).Nodup:=by rw[aJ,bq];refine pw2.imp_of_mem λ{a b} ha hb hlt e=>?_;have h1:=((mem a.1 a.2).mp ha).2;have h2:=((mem b.1 b.2).mp hb).2;rw[e]at h1;have:=O.inj _ _ _ h1 h2;lia
 have perm:List.Perm (live.map (·.2)) (U8 hs.length):=by refine(fR nd cZ).mpr λ i=>?_;rw[aE,aC];refine⟨λ⟨a,ha,q⟩=>q▸O.lt _ _ ((mem a.1 a.2).mp ha).2,λ hi=>?_⟩;obtain⟨j,hj⟩:=O.one i hi;have:j<owner.size:=(cp.mp hj).1;exact⟨(j,i),(mem j i).mpr ⟨by rw[O.sz]at this;lia,hj⟩,rfl⟩
 have hlen:live.length=hs.length:=by have:=perm.length_eq;simpa using this
 refine⟨{mask,place:=(live.map (·.1)).toArray,dummies:=#[],finger,led,moves,plain},(live.map (·.2)).toArray,?_,rfl,rfl,rfl,perm,⟨m,rfl,?_,?_,?_,?_,?_⟩⟩
 ·unfold SetTable.laid;rw[e];rfl
 ·intro a b x y hab hx hy
  have hx:(live.map (·.1))[a]?=My x:=by simpa using hx
  have hy:(live.map (·.1))[b]?=My y:=by simpa using hy
  obtain⟨l1,e1⟩:=aN.mp hx;obtain⟨l2,e2⟩:=aN.mp hy;have:=b_.mp pw a b l1 l2 hab;rw[e1,e2]at this;exact this
 ·intro i j hx
  have hx:(live.map (·.1))[i]?=My j:=by simpa using hx
  obtain⟨a,ha,q⟩:=aE.mp (bt hx);subst q;exact((mem a.1 a.2).mp ha).1
 ·show(live.map (·.1)).toArray.size=_;rw[DK hs 0 _ λ i hi=>aC.mp (perm.mem_iff.mp hi)];simp
 ·show(live.map (·.1)).toArray.size<=mask;simp[hlen];lia
 ·intro i j h hx hh
  have hx:(live.map (·.1))[i]?=My j:=by simpa using hx
  rw[DK hs 0 _ λ i hi=>aC.mp (perm.mem_iff.mp hi)]at hh;rw[aH]at hx;rw[aH,aH]at hh;cases w:live[i]? with
  | none=>rw[w]at hx;cases hx
  | some a =>
   rw[w]at hx hh;have hx:a.1=j:=ao hx;have hh:hs.getD a.2 0=h:=ao hh;have ha:=((mem a.1 a.2).mp (bt w)).2;subst hx;refine(O.rc a.1 a.2 h ha ?_).mono λ x ⟨i',hx⟩=>?_
   ·have:=O.lt _ _ ha;rw[<-hh,aq];simp[this]
   ·have hlt:x<owner.size:=(cp.mp hx).1;have hm:(x,i')∈live:=(mem x i').mpr ⟨by rw[O.sz]at hlt;lia,hx⟩;obtain⟨k,hk,ek⟩:=cf hm;refine⟨k,?_⟩;show(live.map (·.1)).toArray[k]?=My x;simp[hk,ek]
open PySem.Spec PyProof.Rows
section
variable {prog:Program}{w:World}{A:Around}{E:gH}{s:gM}{G:List Int->Addr->Prop}
abbrev lV (prog:Program)(w:World)(h:Heap)(ks:List Int)(a:Addr):Prop:=IsTupleKey (intKind prog w) h ks a
theorem items_int {ks:List Int}{vs:List gL}(h:ItemsAre (intKind prog w) ks vs):∀ v∈vs,∃ i t,v=Value.int i t:=by
 induction h with
 | nil=>intro v hv;cases hv
 | cons h1 _ ih =>
  intro v hv;rcases aD.mp hv with rfl | hv
  ·obtain⟨t,e⟩:=eZ h1;exact⟨_,t,e⟩
  ·exact ih v hv
theorem Gb {ks:List Int}{a:Addr}{Q:Bool->gM->Prop}(hk:lV prog w s.heap ks a)(h:Q U6 s):wpAny (model prog w) A (hashByValue 8 (.ref a)) Q E s:=by
 have hT:=hk.typeIs;obtain⟨o,items,n,ho,_,hd,hi⟩:=hk;have hin:=items_int hi;unfold hashByValue;refine ae (wpAny_specialOf hT F.slot_tuple_hash.lookup ?_);dsimp only;refine ae (cF ho hd ?_);refine ae ?_;show wpAny _ _ (forIn items _ _) _ _ s;rw[<-Array.forIn_toList];refine wpAny_forIn_list _ (λ rest r s'=>r.1=U5/\s'=s/\∀ v∈rest,∃ i t,v=Value.int i t) _ ?_ ?_ _ _ ⟨rfl,rfl,hin⟩
 ·rintro v rest r s' ⟨hr,rfl,hall⟩;obtain⟨i,t,rfl⟩:=hall v aB;refine ae (af ?_);simp only[ef,aQ,cn];exact af ⟨rfl,rfl,λ u hu=>hall u (ay _ hu)⟩
 ·rintro⟨r1,r2⟩ s' ⟨hr,rfl,_⟩;simp only at hr;subst hr;exact af h
theorem zG {ks:List Int}{a:Addr}{Q:Bool->gM->Prop}(hk:lV prog w s.heap ks a)(h:Q U7 s):wpAny (model prog w) A (ofAClassStatement 8 (.ref a)) Q E s:=by
 have hT:=hk.typeIs;obtain⟨o,items,n,ho,_,hd,hi⟩:=hk;have hin:=items_int hi;unfold ofAClassStatement;refine ae (fe hT ?_);dsimp only;rw[ai (by decide)];refine ae (af ?_);simp only[ef,aQ,cn];refine ae (cF ho hd ?_);dsimp only;refine ae ?_;show wpAny _ _ (forIn items _ _) _ _ s;rw[<-Array.forIn_toList];refine wpAny_forIn_list _ (λ rest r s'=>r.1=U5/\s'=s/\∀ v∈rest,∃ i t,v=Value.int i t) _ ?_ ?_ _ _ ⟨rfl,rfl,hin⟩
 ·rintro v rest r s' ⟨hr,rfl,hall⟩;obtain⟨i,t,rfl⟩:=hall v aB;refine ae (af ?_);simp only[aQ,cn];exact af ⟨rfl,rfl,λ u hu=>hall u (ay _ hu)⟩
 ·rintro⟨r1,r2⟩ s' ⟨hr,rfl,_⟩;simp only at hr;subst hr;exact af h
theorem K0 {k:List Int}{b:Addr}{stored:List gL}{Q:Bool->gM->Prop}(hk:lV prog w s.heap k b)(hs:∀ v∈stored,∃ c k',v=Value.ref c/\lV prog w s.heap k' c)(h:Q U7 s):wpAny (model prog w) A (searchCouldBeSeen (.ref b) stored) Q E s:=by
 unfold searchCouldBeSeen;refine ae ?_;refine wpAny_forIn_list _ (λ rest r s'=>r.1=U5/\s'=s/\∀ v∈rest,∃ c k',v=Value.ref c/\lV prog w s.heap k' c) _ ?_ ?_ _ _ ⟨rfl,rfl,hs⟩
 ·rintro v rest r s' ⟨hr,rfl,hall⟩
  obtain⟨c,k',rfl,hc⟩:=hall v aB;have nxt:∀ v∈rest,∃ c k',v=Value.ref c/\lV prog w s'.heap k' c:=λ u hu=>hall u (ay _ hu);dsimp only;split
  ·exact af ⟨rfl,rfl,nxt⟩
  ·refine ae (wpAny_eqIsQuiet_tuple hk ?_);simp only[ef,aQ,cn];refine ae (wpAny_eqIsQuiet_tuple hc ?_);simp only[ef,aQ,cn];refine ae (zG hk ?_);simp only[aQ,cn];refine ae (zG hc ?_);simp only[aQ,cn];exact af ⟨rfl,rfl,nxt⟩
 ·rintro⟨r1,r2⟩ s' ⟨hr,rfl,_⟩;simp only at hr;subst hr;exact af h
def uQ (G:List Int->Addr->Prop)(prog:Program)(w:World)(h:Heap)(ks:List (List Int))(es:List (Int×gL)):Prop:=Paired (λ k e=>∃ b,e=(tupleKeyHash (intKind prog w) k,Value.ref b)/\lV prog w h k b/\G k b) ks es
theorem uQ.get {h:Heap}:∀ {ks:List (List Int)} {es:List (Int×gL)},uQ G prog w h ks es->∀ (i:Nat) (e:Int×gL),es[i]?=My e->∃ k b,ks[i]?=My k/\e=(tupleKeyHash (intKind prog w) k,Value.ref b)/\lV prog w h k b/\G k b
 := by
  intro ks es h;induction h with
  | nil=>intro i e q;simp at q
  | cons z r ih =>
    intro i e q;cases i with
    | zero =>rw[bE]at q;cases q;obtain⟨b,e1,hb⟩:=z;exact⟨_,b,rfl,e1,hb⟩
    | succ i =>rw[aS]at q;obtain⟨k,b,h1,h2⟩:=ih i e q;exact⟨k,b,by rw[aS];exact h1,h2⟩
theorem fits_of {t:SetTable}{hs:List Int}(T:TOk t hs){n:Nat}(hn:n=hs.length):t.fits n=U6:=by unfold SetTable.fits SetTable.fill;have h1:=T.sz;have h2:=T.ro;have h3:=T.d;simp[h3,hn,h1];lia
theorem vi {a:Addr}{o:Obj}{es:Array (Int×gL)}{ep:Nat}{t:SetTable}{ks:List (List Int)}{k:List Int}{b:Addr}{Q:SetFound->gM->Prop}(hu:A.units<cLine)
  (ho:s.heap.get? a=My o) (hd:o.data=.set es ep t) (T:TOk t (es.toList.map (·.1))) (En:uQ G prog w s.heap ks es.toList) (hk:lV prog w s.heap k b)
  {e:Nat} (he:¬ Occ t (walk t.mask (st t.mask (tupleKeyHash (intKind prog w) k)) e).j) (hb:∀ m,m<e->Occ t (walk t.mask (st t.mask (tupleKeyHash (intKind prog w) k)) m).j) (hf:e<10*SetTable.turns t.mask)
  (h1:k∈ks->Q (.there U5) s) (h2:(∀ m,m<e->∀ i:Nat,t.place[i]?=My (walk t.mask (st t.mask (tupleKeyHash (intKind prog w) k)) m).j->ks[i]?≠My k)->Q (.free (walk t.mask (st t.mask (tupleKeyHash (intKind prog w) k)) e).j U7) s) :
  ∀ (fuel n:Nat) (stand:gJ SetTable.Probe),n<=e->e<n+fuel->stand.getD (t.probeStart (tupleKeyHash (intKind prog w) k))=walk t.mask (st t.mask (tupleKeyHash (intKind prog w) k)) n ->
   (∀ m,m<n->∀ i:Nat,t.place[i]?=My (walk t.mask (st t.mask (tupleKeyHash (intKind prog w) k)) m).j->ks[i]?≠My k)->wpAny (model prog w) A (setSearchFrom a (.ref b) (tupleKeyHash (intKind prog w) k) U6 fuel stand) Q E s
 | 0,n,stand,a1,a2,_,_=>by lia
 | fuel+1,n,stand,a1,a2,a3,a4=>by
  have hfit:=fits_of T (n:=es.size) (by simp);unfold setSearchFrom;refine ae (cm ho hd hfit ?_);dsimp only;have hgw:t.gaveWay=U7:=by unfold SetTable.gaveWay;rcases T.m with z | z | z<;>rw[z]<;>decide
  rw[hgw];simp only[aQ,cn];rw[a3];generalize hpr:SetTable.probe t _ (tupleKeyHash (intKind prog w) k) _=r;obtain⟨f,hff,hpr⟩:∃ f:Nat->Int,(∀ i,f i=((es[i]?.map (·.1)).getD 0))/\SetTable.probe t f (tupleKeyHash (intKind prog w) k) (walk t.mask (st t.mask (tupleKeyHash (intKind prog w) k)) n)=r:=⟨_,λ _=>rfl,hpr⟩;unfold SetTable.probe at hpr;have keyOf:∀ (i j:Nat),t.place[i]?=My j->∃ k' b',ks[i]?=My k'/\es[i]?=My (tupleKeyHash (intKind prog w) k',Value.ref b')/\lV prog w s.heap k' b':=λ i j hj=>by
   have hi:i<es.size:=by have:=(cp.mp hj).1;rw[T.sz]at this;simpa using this
   obtain⟨k',b',q1,q2,q3⟩:=En.get i es[i] (by simp[hi]);exact⟨k',b',q1,by rw[<-q2];simp[hi],q3.1⟩
  have skipN:∀ m,(∀ i:Nat,t.place[i]?=My (walk t.mask (st t.mask (tupleKeyHash (intKind prog w) k)) m).j->f i≠tupleKeyHash (intKind prog w) k)->∀ i:Nat,t.place[i]?=My (walk t.mask (st t.mask (tupleKeyHash (intKind prog w) k)) m).j->ks[i]?≠My k:=λ m hm i hi hki=>by obtain⟨k',b',q1,q2,_⟩:=keyOf i _ hi;rw[q1]at hki;cases hki;exact hm i hi (by rw[hff,q2];rfl)
  rcases B3 T (hashAt:=f) he hb (10*SetTable.turns t.mask) n a1 (by lia) with⟨p1,p2⟩ | ⟨m,i,b1,b2,b3,b4,b5,b6⟩
  ·rw[p1]at hpr
   subst hpr;dsimp only;refine af (h2 λ m hm=>?_);by_cases hmn:m<n
   ·exact a4 m hmn
   ·exact skipN m (p2 m (by lia) hm)
  ·rw[b6]at hpr
   subst hpr;dsimp only;obtain⟨k',b',q1,q2,q3⟩:=keyOf i _ b3;have cont:wpAny (model prog w) A (do
     let My (_,y):=es[i]? | unsupported "internal:set-entry"
     let equal<-holding [y] (eqBool y (.ref b));let (es',_,t')<-setState a
     if U6&&equal then return .there U5
     let My same:=t'.sameMemory t.moves t.mask | unsupported "set.changed-during-lookup:is-the-new-block-at-the-old-address"
     let still<-match (if same then t'.slot (walk t.mask (st t.mask (tupleKeyHash (intKind prog w) k)) m).j else .empty) with
      | .live i'=>match es'[i']? with
       | some (_,y')=>do pure (if<-isSame y' y then My i' else U5)
       | none=>pure U5
      | _=>pure U5
     match still with
     | none=>rule "set.search.anew";setSearchFrom a (.ref b) (tupleKeyHash (intKind prog w) k) U6 fuel U5
     | some i'=>if equal then return .there (My i') else setSearchFrom a (.ref b) (tupleKeyHash (intKind prog w) k) U6 fuel (My (walk t.mask (st t.mask (tupleKeyHash (intKind prog w) k)) (m+1)))) Q E s:=by
    rw[q2];dsimp only;refine ae (bQ (wpAny_eqBool_tuple hu q3 hk ?_));refine ae (cm ho hd hfit ?_);dsimp only;by_cases hkk:k'=k
    ·rw[decide_eq_true hkk];simp only[Bool.and_self,dJ];exact af (h1 (bt (hkk▸q1)))
    ·rw[decide_eq_false hkk]
     simp only[fQ,aQ,cn];have hsm:t.sameMemory t.moves t.mask=My U6:=by unfold SetTable.sameMemory;simp
     rw[hsm];dsimp only;simp only[dJ];rw[uP T.ri b3];dsimp only;rw[q2];dsimp only;refine ae (wpAny_isSame_ref_self ?_);simp only[dJ];refine ae (af ?_);dsimp only;refine vi hu ho hd T En hk he hb hf h1 h2 fuel (m+1) _ (by lia) (by lia) rfl λ m' hm'=>?_;by_cases c1:m'<n
     ·exact a4 m' c1
     ·by_cases c2:m'<m
      ·exact skipN m' (b5 m' (by lia) c2)
      ·have:m'=m:=by lia
       subst this;intro i' hi' hki';have:i'=i:=(below_at T.ri hi').symm.trans (below_at T.ri b3);rw[this,q1]at hki';exact hkk (ao hki')
   by_cases hled:t.led=U6
   ·rw[hled];simp only[ef,aQ,cn];exact cont
   ·have hled:t.led=U7:=by simpa using hled
    rw[hled];simp only[gD,dJ];refine ae (K0 hk (λ v hv=>?_) ?_)
    ·obtain⟨ev,he1,he2⟩:=aE.mp hv
     have he3:ev∈es.toList:=by have:=he1;rw[Array.toList_filter]at this;exact(bH.mp this).1
     obtain⟨i',hi',ei'⟩:=cf he3;obtain⟨k'',b'',_,q5,q6⟩:=En.get i' ev (by rw[<-ei'];simp[hi']);rw[q5]at he2;exact⟨b'',k'',he2.symm,q6.1⟩
    ·simp only[aQ,cn];exact cont
end
set_option tactic.hygienic true in
theorem EY {mask:Nat}(h:Int):∀ n,(walk mask (st mask h) n).j+(walk mask (st mask h) n).more<=mask/\(walk mask (st mask h) n).i<=mask
 | 0=>by have h1:=bits_le mask h;have h2:=qE h1;show Vc h % (mask+1)+(Vb mask (Vc h % (mask+1))-Vc h % (mask+1))<=mask/\Vc h % (mask+1)<=mask;lia
 | n+1=>by
  obtain⟨h1,h2⟩:=EY (mask:=mask) h n;show(adv mask (walk mask (st mask h) n)).j+(adv mask (walk mask (st mask h) n)).more<=mask/\(adv mask (walk mask (st mask h) n)).i<=mask;unfold adv;split
  ·rename_i hm;show(walk mask (st mask h) n).j+1+((walk mask (st mask h) n).more-1)<=mask/\(walk mask (st mask h) n).i<=mask;lia
  ·have h3:(SetTable.leap mask (walk mask (st mask h) n).i (walk mask (st mask h) n).perturb).1<=mask:=cz (fy _ (gm _));have h4:=qE h3;dsimp only;lia
theorem HF {α:Type}(l:List α)(p:Nat)(x:α):(SetTable.insertAt l.toArray p x).toList=l.take p++x::l.drop p:=by rw[eP]
theorem vj {α β:Type}{F:α->β->Prop}:∀ {xs:List α} {ys:List β} (n:Nat),Paired F xs ys->Paired F (xs.take n) (ys.take n)
 | _,_,0,_=>.nil
 | _,_,_+1,.nil=>.nil
 | _,_,n+1,.cons h t=>.cons h (vj n t)
theorem vo {α β:Type}{F:α->β->Prop}:∀ {xs:List α} {ys:List β} (n:Nat),Paired F xs ys->Paired F (xs.drop n) (ys.drop n)
 | _,_,0,h=>h
 | _,_,_+1,.nil=>.nil
 | _,_,n+1,.cons _ t=>vo n t
theorem DL {α β:Type}{F:α->β->Prop}:∀ {xs xs':List α} {ys ys':List β},Paired F xs ys->Paired F xs' ys'->Paired F (xs++xs') (ys++ys')
 := by
  intro xs xs' ys ys' h h';induction h with
  | nil=>exact h'
  | cons h t ih=>exact .cons h ih
theorem nK {α β:Type}{F G:α->β->Prop}(k:∀ a b,F a b->G a b):∀ {xs:List α} {ys:List β},Paired F xs ys->Paired G xs ys
 | _,_,.nil=>.nil
 | _,_,.cons h t=>.cons (k _ _ h) (nK k t)
theorem DM {α β:Type}{F:α->β->Prop}:∀ {xs:List α} {ys:List β},Paired F xs ys->∀ (i:Nat) (x:α) (y:β),xs[i]?=My x->ys[i]?=My y->F x y
 := by
  intro xs ys h;induction h with
  | nil=>intro i x y h;simp at h
  | cons h t ih =>
    intro i x y e1 e2;cases i with
    | zero =>rw[bE]at e1 e2;cases e1;cases e2;exact h
    | succ i =>rw[aS]at e1 e2;exact ih i x y e1 e2
theorem ph {α β:Type}{F:α->β->Prop}{xs:List α}{ys:List β}(P:Paired F xs ys):∀ (l:List Nat),Paired F (l.filterMap λ i=>xs[i]?) (l.filterMap λ i=>ys[i]?)
 | []=>.nil
 | i::r=>by
  have hl:=P.length;rw[bK,bK];by_cases hi:i<xs.length
  ·have e1:xs[i]?=My xs[i]:=by simp[hi]
   have e2:ys[i]?=My (ys[i]'(by lia)):=by simp[show i<ys.length by lia]
   rw[e1,e2];exact .cons (DM P i _ _ e1 e2) (ph P r)
  ·have e1:xs[i]?=U5:=cA (by lia);have e2:ys[i]?=U5:=cA (by lia);rw[e1,e2];exact ph P r
section
variable {prog:Program}{w:World}{A:Around}{E:gH}{s:gM}{G:List Int->Addr->Prop}
theorem EZ {h h':Heap}{k:List Int}{a b:Addr}{o:Obj}{es:Array (Int×gL)}{ep:Nat}{t:SetTable}(x:lV prog w h k b)(ho:h.get? a=My o)(hd:o.data=.set es ep t)(sb:Heap.SameBut a h h'):lV prog w h' k b:=by
 obtain⟨ob,its,n,e1,e2,e3,e4⟩:=x;have:b≠a:=by rintro rfl;rw[e1]at ho;cases ho;rw[e3]at hd;cases hd
 exact⟨ob,its,n,(sb.2 b this).trans e1,e2,e3,e4⟩
theorem uQ.sb {h h':Heap}{ks:List (List Int)}{a:Addr}{l:List (Int×gL)}{o:Obj}{es:Array (Int×gL)}{ep:Nat}{t:SetTable}(x:uQ G prog w h ks l)(ho:h.get? a=My o)(hd:o.data=.set es ep t)(sb:Heap.SameBut a h h'):uQ G prog w h' ks l :=
 nK (λ k e ⟨b,e1,hb⟩=>⟨b,e1,EZ hb.1 ho hd sb,hb.2⟩) x
def HG (mask n:Nat):Prop:=(mask=7/\n<=4)\/(mask=31/\n<=18)\/(mask=127/\n<=76)
def rW (G:List Int->Addr->Prop)(prog:Program)(w:World)(h:Heap)(a:Addr)(ks:List (List Int)):Prop:=∃ o es ep t,h.get? a=My o/\o.ExactSet/\o.data=.set es ep t/\TOk t (es.toList.map (·.1))/\uQ G prog w h ks es.toList/\t.plain=U6/\t.led=!(w.params.followText "set-order")/\HG t.mask es.size/\ks.Nodup
theorem xo {h:Heap}{a:Addr}{o:Obj}{es es':Array (Int×gL)}{ep:Nat}{t t':SetTable}(ho:h.get? a=My o)(hd:o.data=.set es ep t):(h.update a (Obj.putSet es' t')).get? a=My {o with data:=.set es' (ep+1) t'}:=by have:=dz (Obj.putSet es' t') ho (by rw[putSet_of es' t' hd];rfl);rw[putSet_of es' t' hd]at this;exact this
theorem Gd {a:Addr}{o:Obj}{es:Array (Int×gL)}{ep:Nat}{t:SetTable}{ks:List (List Int)}{n:Nat}{Q:Unit->gM->Prop}(ho:s.heap.get? a=My o)(hx:o.ExactSet)(hd:o.data=.set es ep t)(T:TOk t (es.toList.map (·.1)))(En:uQ G prog w s.heap ks es.toList)
  (hp:t.plain=U6) (hl:t.led=!(w.params.followText "set-order")) (nd:ks.Nodup) (hm:Mk (SetTable.sizeAbove n-1)) (hn:HG (SetTable.sizeAbove n-1) es.size)
  (h:∀ h' ks',Heap.SameBut a s.heap h'->List.Perm ks' ks->rW G prog w h' a ks'->Q () {s with heap:=h'}):wpAny (model prog w) A (setRelay a n) Q E s:=by
 unfold setRelay;refine ae (cm ho hd (fits_of T (by simp)) ?_);dsimp only;have hsz:¬ SetTable.sizeAbove n>sizeLine:=by rw[sizeLine_eq];rcases hm with z | z | z<;>lia
 rw[au hsz];have hes:es.size<=SetTable.sizeAbove n-1:=by rcases hn with⟨z,q⟩ | ⟨z,q⟩ | ⟨z,q⟩<;>lia
 obtain⟨t',order,e,m1,l1,p1,perm,T'⟩:=KZ hm (es.toList.map (·.1)) (by simpa using hes) t.finger (t.movedTo (SetTable.sizeAbove n-1)) t.led t.plain;have eL:t.relaid (es.map (·.1)) n=My (t',order):=by unfold SetTable.relaid;rw[<-e];congr 1;apply Array.ext';simp
 rw[eL];have hlen:(order.filterMap λ i=>es[i]?).size=es.size:=by
  have h1:(order.filterMap λ i=>es[i]?).toList=order.toList.filterMap λ i=>es.toList[i]?:=by simp
  have h2:(order.filterMap λ i=>es[i]?).toList.length=es.toList.length:=by rw[h1];have:=(perm.filterMap λ i=>es.toList[i]?).length_eq;rw[this];rw[ah];rw[cG]
  rw[bA,bA]at h2;exact h2
 refine ae ?_;show wpAny _ _ (do
  let es':=order.filterMap λ i=>es[i]?
  if (es'.size != es.size)=U6 then unsupported "internal:set-table-lost-an-element"
  pure (es',t')) _ _ _
 dsimp only;rw[hlen];simp only[bne_self_eq_false,aQ,cn];refine af ?_;dsimp only;have sb:=cK s.heap a (Obj.putSet (order.filterMap λ i=>es[i]?) t');refine wpAny_storeSet_of ho hd (h _ (order.toList.filterMap λ i=>ks[i]?) sb ?_ ⟨_,_,_,_,xo ho hd,hx,rfl,?_,?_,p1.trans hp,l1.trans hl,?_,?_⟩) ?_
 ·have hkl:ks.length=es.toList.length:=En.length;have:=perm.filterMap λ i=>ks[i]?;rw[ah,<-hkl,cG]at this;exact this
 ·have e1:(order.filterMap λ i=>es[i]?).toList.map (·.1)=order.toList.filterMap λ i=>(es.toList.map (·.1))[i]?:=by
   rw[Array.toList_filterMap,List.map_filterMap];congr 1;funext i;simp
  rw[e1];exact T'
 ·have:uQ G prog w _ ks es.toList:=En.sb ho hd sb;have q:=ph this order.toList;rw[Array.toList_filterMap];refine Eq.mp ?_ q;congr 1;congr 1;funext i;simp
 ·rw[m1,hlen];exact hn
 ·have hkl:ks.length=es.toList.length:=En.length;have:=perm.filterMap λ i=>ks[i]?;rw[ah,<-hkl,cG]at this;exact this.nodup_iff.mpr nd
 ·rw[hlen,sizeLine_eq];rcases hn with⟨z,q⟩ | ⟨z,q⟩ | ⟨z,q⟩<;>lia
theorem E1 {a:Addr}{ks:List (List Int)}{k:List Int}{b:Addr}{Q:Bool->gM->Prop}(hu:A.units<cLine)(S:rW G prog w s.heap a ks)(hk:lV prog w s.heap k b)(hg:G k b)(hn:ks.length<40)
  (h:∀ h' ks' c tk,Heap.SameBut a s.heap h'->rW G prog w h' a ks'->List.Perm ks' (if k∈ks then ks else k::ks)->Q c {s with heap:=h',toks:=tk}):wpAny (model prog w) A (setAdd a (.ref b)) Q E s:=by
 unfold setAdd;refine bQ (ae (wpAny_pyHash_tuple hu hk ?_));show wpAny (model prog w) A (setAddHashed a (.ref b) (tupleKeyHash (intKind prog w) k)) Q E {s with toks:=s.toks+(k.length+1)};unfold setAddHashed;refine bQ ?_;obtain⟨o,es,ep,t,ho,hx,hd,T,En,hp,hl,hr,nd⟩:=S;have hkl:ks.length=es.size:=by simpa using En.length
 have hfit:=fits_of T (n:=es.size) (by simp);unfold setAddHashedIn;refine ae (cm ho hd hfit ?_);dsimp only;have hbs:byScan (.ref b) es=U7:=rfl;rw[hbs];simp only[aQ,cn];obtain⟨e,he1,he2,he3⟩:=Ga T (tupleKeyHash (intKind prog w) k);refine ae ?_;unfold setSearch;refine vi (s:={s with toks:=s.toks+(k.length+1)}) hu ho hd T En hk he2 he3 he1 (λ hin=>?_) (λ hno=>?_) 100000 0 U5 (aT _) ?_ rfl (λ m hm=>absurd hm (dF _))
 ·dsimp only;refine af ?_;have:=h s.heap ks U7 (s.toks+(k.length+1)) (Heap.SameBut.refl a s.heap) ⟨o,es,ep,t,ho,hx,hd,T,En,hp,hl,hr,nd⟩ (by rw[ai hin]);exact this
 ·have hnk:k∉ks:=λ hm=>by
   obtain⟨i,hi,ei⟩:=cf hm;have hki:ks[i]?=My k:=by rw[<-ei];simp[hi]
   have hie:i<es.size:=by lia
   obtain⟨k',b',q1,q2,q3⟩:=En.get i es[i] (by simp[hie]);rw[hki]at q1;cases q1;have hpl:i<t.place.size:=by rw[T.sz];simpa using hie
   have hpi:t.place[i]?=My t.place[i]:=by simp[hpl]
   obtain⟨n,r1,r2⟩:=T.rc i t.place[i] (tupleKeyHash (intKind prog w) k) hpi (by simp[hie,q2]);have hne:n<e:=by
    rcases fg n e with z | z | z
    ·exact z
    ·exact absurd ⟨i,by rw[<-z,r1];exact hpi⟩ he2
    ·exact absurd (r2 e z) he2
   exact hno n hne i (by rw[r1];exact hpi) hki
  dsimp only;refine ae (cm ho hd hfit ?_);dsimp only;have hj:=(EY (mask:=t.mask) (tupleKeyHash (intKind prog w) k) e).1;have hro:t.place.size+1<=t.mask:=by have:=T.sz;rw[ah,bA]at this;rcases hr with⟨z,q⟩ | ⟨z,q⟩ | ⟨z,q⟩<;>lia
  have T1:=Oo T he2 he3 (bD (eB _ _) hj) hro (led:=U6) (plain:=U6);generalize hjj:(walk t.mask (st t.mask (tupleKeyHash (intKind prog w) k)) e).j=j at *;have hpp:(t.put j).1.plain=U6:=hp;rw[hpp];simp only[dJ];refine ae (Gb (s:={s with toks:=s.toks+(k.length+1)}) hk ?_);simp only[dJ];have ep2:(t.put j).2=Va t.place j:=rfl;rw[ep2];have tEq:({(t.put j).1 with plain:=U6}:SetTable)=(t.put j).1:=by
   have:∀ (u:SetTable),u.plain=U6->({u with plain:=U6}:SetTable)=u:=λ u hu=>by cases u;cases hu;rfl
   exact this _ hpp
  rw[tEq]at T1;generalize hes1:SetTable.insertAt es (Va t.place j) (tupleKeyHash (intKind prog w) k,Value.ref b)=es1;have hl1:es1.toList=es.toList.take (Va t.place j)++(tupleKeyHash (intKind prog w) k,Value.ref b)::es.toList.drop (Va t.place j):=by rw[<-hes1,eP]
  have hs1:es1.size=es.size+1:=by rw[<-hes1,tF]
  have T2:TOk (t.put j).1 (es1.toList.map (·.1)):=by rw[HF]at T1;rw[hl1,bu,aI,List.map_take,List.map_drop];exact T1
  have sb1:=cK s.heap a (Obj.putSet es1 (t.put j).1);have En1:uQ G prog w (s.heap.update a (Obj.putSet es1 (t.put j).1)) (ks.take (Va t.place j)++k::ks.drop (Va t.place j)) es1.toList:=by rw[hl1];have q:=En.sb ho hd sb1;exact DL (vj _ q) (.cons ⟨b,rfl,EZ hk ho hd sb1,hg⟩ (vo _ q))
  have pm:List.Perm (ks.take (Va t.place j)++k::ks.drop (Va t.place j)) (k::ks):=by have:=@List.perm_middle _ k (ks.take (Va t.place j)) (ks.drop (Va t.place j));rw[List.take_append_drop]at this;exact this
  have nd1:(ks.take (Va t.place j)++k::ks.drop (Va t.place j)).Nodup:=pm.nodup_iff.mpr (bC.mpr ⟨hnk,nd⟩);refine ae (wpAny_storeSet_of (s:={s with toks:=s.toks+(k.length+1)}) ho hd ?_ (by rw[hs1,sizeLine_eq];lia));have hpm:∀ ks',List.Perm ks' (ks.take (Va t.place j)++k::ks.drop (Va t.place j))->List.Perm ks' (if k∈ks then ks else k::ks):=λ ks' p=>by rw[au hnk];exact p.trans pm
  by_cases hf:(t.put j).1.tooFull=U6
  ·rw[hf]
   simp only[gD,Bool.and_self,dJ];have hfill:(t.put j).1.fill=es.size+1:=by have h1:=T2.sz;have h2:=T2.d;unfold SetTable.fill;rw[h1,h2];simp[hs1]
   have hff:(es.size+1)*5≥t.mask*3:=by unfold SetTable.tooFull at hf;rw[hfill,show(t.put j).1.mask=t.mask from rfl]at hf;simpa using hf
   have hcase:(t.mask=7/\es.size=4)\/(t.mask=31/\es.size=18):=by
    rcases hr with⟨z,q⟩ | ⟨z,q⟩ | ⟨z,q⟩
    ·rw[z]at hff;exact .inl ⟨z,by lia⟩
    ·rw[z]at hff;exact .inr ⟨z,by lia⟩
    ·rw[z]at hff;lia
   have hsa:SetTable.sizeAbove (SetTable.grown (4+1))=32:=by decide
   have hsb:SetTable.sizeAbove (SetTable.grown (18+1))=128:=by decide
   refine ae (Gd (s:={s with heap:=s.heap.update a (Obj.putSet es1 (t.put j).1),toks:=s.toks+(k.length+1)}) (n:=SetTable.grown (es.size+1)) (xo ho hd) hx rfl T2 En1 hpp hl nd1 ?_ ?_ λ h2 ks2 sb2 p2 S2=>?_)
   ·rcases hcase with⟨_,z⟩ | ⟨_,z⟩
    ·rw[z,hsa];exact .inr (.inl rfl)
    ·rw[z,hsb];exact .inr (.inr rfl)
   ·rcases hcase with⟨_,z⟩ | ⟨_,z⟩
    ·rw[z,hsa,hs1,z];exact .inr (.inl ⟨rfl,by lia⟩)
    ·rw[z,hsb,hs1,z];exact .inr (.inr ⟨rfl,by lia⟩)
   ·exact af (h h2 ks2 U6 _ (sb1.trans sb2) S2 (hpm _ p2))
  ·have hf':(t.put j).1.tooFull=U7:=by simpa using hf
   rw[hf'];simp only[fQ,aQ,cn];have hfill:(t.put j).1.fill=es.size+1:=by have h1:=T2.sz;have h2:=T2.d;unfold SetTable.fill;rw[h1,h2];simp[hs1]
   have hff:¬ (es.size+1)*5≥t.mask*3:=by unfold SetTable.tooFull at hf';rw[hfill,show(t.put j).1.mask=t.mask from rfl]at hf';simpa using hf'
   refine af (h _ _ U6 _ sb1 ⟨_,es1,_,(t.put j).1,xo ho hd,hx,rfl,T2,En1,hpp,hl,?_,nd1⟩ (hpm _ (gE _)));show HG t.mask es1.size;rw[hs1];rcases hr with⟨z,q⟩ | ⟨z,q⟩ | ⟨z,q⟩
   ·rw[z]at hff;exact .inl ⟨z,by lia⟩
   ·rw[z]at hff;exact .inr (.inl ⟨z,by lia⟩)
   ·rw[z]at hff;exact .inr (.inr ⟨z,by lia⟩)
 ·have:SetTable.turns t.mask<=142:=by
   unfold SetTable.turns;rcases T.m with z | z | z<;>lia
  lia
end
section
variable {prog:Program}{w:World}{A:Around}{E:gH}{s:gM}{G:List Int->Addr->Prop}
theorem my {h h':Heap}{k:List Int}{b:Addr}(x:lV prog w h k b)(kp:∀ o,h.get? b=My o->h'.get? b=My o):lV prog w h' k b :=
 let ⟨o,its,n,e1,e2,e3,e4⟩:=x
 ⟨o,its,n,kp o e1,e2,e3,e4⟩
theorem uQ.keep {h h':Heap}{ks:List (List Int)}{es:List (Int×gL)}(x:uQ G prog w h ks es)(kp:∀ b o,h.get? b=My o->o.cls=.type "tuple"->h'.get? b=My o):uQ G prog w h' ks es :=
 nK (λ k e ⟨b,e1,hb⟩=>⟨b,e1,my hb.1 (λ o ho=>kp b o ho (by obtain⟨o',its,n,q1,q2,_⟩:=hb.1;rw[q1]at ho;cases ho;exact q2)),hb.2⟩) x
theorem rW.keep {h h':Heap}{a:Addr}{ks:List (List Int)}(S:rW G prog w h a ks)(ka:∀ o,h.get? a=My o->h'.get? a=My o)(kp:∀ b o,h.get? b=My o->o.cls=.type "tuple"->h'.get? b=My o):rW G prog w h' a ks :=
 by
 obtain⟨o,es,ep,t,ho,hx,hd,T,En,r⟩:=S;exact⟨o,es,ep,t,ka o ho,hx,hd,T,En.keep kp,r⟩
theorem HH {R:Result->gM->Prop}(hh:A.in1.handled=U5)(hu:A.in1.units<cLine){S I l:Addr}{items:Array gL}{kk:List (List Int)}(hk:kk.length=items.size)(h40:items.size<=40)(n1:S≠I)(n2:S≠l)(n3:l≠I) :
  ∀ (n i:Nat) (s:gM) (ks:List (List Int)),items.size-i=n->i<=items.size->s.heap.IsListIter I l i->s.heap.IsList l items->rW G prog w s.heap S ks ->
   (∀ (j:Nat) v,items[j]?=My v->∃ k b,kk[j]?=My k/\v=.ref b/\lV prog w s.heap k b/\G k b)->ks.length<=i->(∀ k,k∈ks↔k∈kk.take i) ->
   (∀ h' tk ks',(∀ b o,b≠S->b≠I->s.heap.get? b=My o->h'.get? b=My o)->rW G prog w h' S ks'->(∀ k,k∈ks'↔k∈kk)->R (.ok (.ret .none)) {s with heap:=h',toks:=tk}) ->
   codeAny (model prog w) A (.builtin "set.update.loop" ⟨[.ref S,.ref I],[]⟩) R s:=by
 intro n;induction n using Nat.strongRecOn with
 | ind n ih =>
  intro i s ks hn hi st hl hS hv hlen hm fin;refine codeAny_builtin F.entry_set_update_loop ?_;rw[fH dX _];have tupI:∀ {h h':Heap} {b:Addr} {o:Obj} {x:Addr} {j:Nat},h.IsListIter x l j->h.get? b=My o->o.cls=.type "tuple"->b≠x:=λ hit e c z=>by obtain⟨o',e',c',_⟩:=hit;rw[z,e']at e;cases e;rw[c']at c;injection c with c;exact absurd c (by decide)
  by_cases hlt:i<items.size
  ·show wpAny _ A.in1 (pyNext (.ref I)>>=_) _ _ s
   refine ae (wpAny_pyNext_list_item st hl (x:=items[i]) (by simp[hlt]) λ h' st' sb=>?_);obtain⟨k,b,hkk,eb,tb,gb⟩:=hv i items[i] (by simp[hlt]);rw[eb];have bI:b≠I:=by obtain⟨o,its,m,q1,q2,_⟩:=tb;exact tupI (h':=h') st q1 q2
   have S1:rW G prog w h' S ks:=hS.keep (λ o e=>(sb.2 S n1).trans e) λ c o e hc=>(sb.2 c (tupI (h':=h') st e hc)).trans e;have tb1:lV prog w h' k b:=my tb λ o e=>(sb.2 b bI).trans e;refine ae (bQ (E1 (s:={s with heap:=h'}) hu S1 tb1 gb (by lia) λ h2 ks2 c tk sb2 S2 p2=>?_));have keep2:∀ x o,x≠S->x≠I->s.heap.get? x=My o->h2.get? x=My o:=λ x o x1 x2 e=>(sb2.2 x x1).trans ((sb.2 x x2).trans e);refine af ⟨plainId_quiet dX _,?_⟩;have mem2:∀ k',k'∈ks2↔k'∈kk.take (i+1):=λ k'=>by
    rw[p2.mem_iff,List.take_add_one,hkk,a_,<-hm k'];by_cases hin:k∈ks
    ·rw[ai hin];simp only[eV,aD,bg,or_false];exact⟨.inl,λ z=>z.elim id λ z=>z▸hin⟩
    ·rw[au hin];simp only[eV,aD,bg,or_false];exact⟨λ z=>z.symm,λ z=>z.symm⟩
   have len2:ks2.length<=i+1:=by
    rw[p2.length_eq];split
    ·lia
    ·rw[bf];lia
   obtain⟨ol,hol,hcl,m,hdl⟩:=id hl;refine ih (n-1) (by lia) (i+1) {s with heap:=h2,toks:=tk} ks2 (by lia) hlt ?_ ⟨ol,keep2 l ol n2.symm n3 hol,hcl,m,hdl⟩ S2 (λ j v hj=>?_) len2 mem2 λ h3 tk3 ks3 kp3 S3 m3=>?_
   ·obtain⟨oI,eI,cI,dI⟩:=st';exact⟨oI,(sb2.2 I n1.symm).trans eI,cI,dI⟩
   ·obtain⟨k',b',q1,q2,q3,g3⟩:=hv j v hj
    refine⟨k',b',q1,q2,my q3 λ o e=>?_,g3⟩;have c1:b'≠I:=by obtain⟨o',its,m,z1,z2,_⟩:=q3;exact tupI (h':=h') st z1 z2
    have c2:b'≠S:=by rintro rfl;obtain⟨oS,es,ep,t,z1,_,z2,_⟩:=hS;obtain⟨o',its,m,y1,_,y3,_⟩:=q3;rw[z1]at y1;cases y1;rw[z2]at y3;cases y3
    exact keep2 b' o c2 c1 e
   ·exact fin h3 tk3 ks3 (λ x o x1 x2 e=>kp3 x o x1 x2 (keep2 x o x1 x2 e)) S3 m3
  ·have e:i=items.size:=by lia
   show wpAny _ A.in1 (pyNext (.ref I)>>=_) _ _ s;refine ae (wpAny_pyNext_list_end hh st hl (cX (fM e.symm)) λ h' eb=>?_);show wpAny _ A.in1 (ret Value.none) _ _ _;refine af (fin h' s.toks ks (λ x o _ x2 q=>eb x o x2 q) (hS.keep (λ o q=>eb S o n1 q) λ c o q hc=>eb c o (tupI (h':=h') st q hc) q) λ k=>?_);rw[hm k,e,<-hk,eD]
theorem E2 {a:gL}{Q₁:gH}(h:Q₁ (.ref s.heap.objs.size) {s with heap:=s.heap.push {cls:=.type "set",dict:=U5,data:=.set #[] 0 (.fresh 0 0 (!(w.params.followText "set-order")))}}) :
  codeAny (model prog w) A (.call (.builtin "set.__new__") ⟨[.type "set",a],[]⟩) (wants Q₁ E) s:=by
 refine codeAny_of_tree ?_;show wpAny _ A.in1 (checkBuiltinCall "set.__new__" ⟨[.type "set",a],[]⟩>>=λ _=>again (.builtin "set.__new__" ⟨[.type "set",a],[]⟩)) _ _ s;refine ae (wpAny_of_eq (F.newCall_set_1 a) ?_);refine af ⟨plainId_quiet F.plain_set_new _,codeAny_builtin F.entry_set_new ?_⟩;rw[fH F.plain_set_new _];unfold Builtin.«set.__new__» Builtin.Frozenset.newClass;have hsub:=sub_set_self;obtain⟨hp,g,d,tk,os⟩:=s;dsimp only
 wp_walk
 refine wpAny_askSetting (af ?_);dsimp only;simp only[newObj];refine ae (wpAny_alloc (af ?_));exact af h
theorem B5 {l:Addr}{items:Array gL}{kk:List (List Int)}{Q:gH}(hh:A.handled=U5)(hu:A.units+40<cLine)(hl:s.heap.IsList l items)(hk:kk.length=items.size)(h40:items.size<=40)
  (hv:∀ (j:Nat) v,items[j]?=My v->∃ k b,kk[j]?=My k/\v=.ref b/\lV prog w s.heap k b/\G k b)
  (h:∀ h' tk ks,(∀ b o,b<s.heap.objs.size->s.heap.get? b=My o->h'.get? b=My o)->rW G prog w h' s.heap.objs.size ks->(∀ k,k∈ks↔k∈kk)->Q (.ref s.heap.objs.size) {s with heap:=h',toks:=tk}) :
  wpAny (model prog w) A (call (.type "set") [.ref l]) Q E s:=by
 obtain⟨c0,tl0,hmro⟩:=cb.mro;have hmade:=cb.made;have hsub:=cb.sub;refine gf (codeAny_of_tree ?_);show wpAny _ _ (callAny (.type "set") _) _ _ _;refine af ⟨fS _ (by decide +kernel),codeAny_builtin F.entry_type_call ?_⟩;rw[Around.under_plain (weight_type_call_type "set" [.ref l] []) rfl];have hnt:=cb.notType;have hcc:=cb.canCreate;have hct:=F.typeCall_set_1 (.ref l);repeat (any_goals (first | assumption | wp_step))
 refine codeAny_mono (E2 (a:=.ref l) (E:=E) (Q₁:=λ obj s₁=>obj=.ref s.heap.objs.size/\s₁={s with heap:=s.heap.push {cls:=.type "set",dict:=U5,data:=.set #[] 0 (.fresh 0 0 (!(w.params.followText "set-order")))}}) ⟨rfl,rfl⟩) λ r s₁ hr=>?_;cases r with
 | error e=>exact hr
 | ok fl =>
  cases fl with
  | ret obj =>
   obtain⟨rfl,rfl⟩:=hr;generalize hN0:({cls:=.type "set",dict:=U5,data:=.set #[] 0 (.fresh 0 0 (!(w.params.followText "set-order")))}:Obj)=N0;have hS:(s.heap.push N0).get? s.heap.objs.size=My N0:=aF _ (by rw[<-hN0];rfl);have hT:Shared.TypeIs {s with heap:=s.heap.push N0} (.ref s.heap.objs.size) "set":=⟨_,hS,by rw[<-hN0]⟩;have hli:=cb.init.lookup;have hbi:=cb.init.bind (.ref s.heap.objs.size);repeat (any_goals (first | assumption | wp_step))
   refine codeAny_mono (codeAny_call_builtin (R:=wants (λ r s₂=>r=.none/\∃ h' tk ks,s₂={s with heap:=h',toks:=tk}/\rW G prog w h' s.heap.objs.size ks/\(∀ k,k∈ks↔k∈kk)/\(∀ b o,b<s.heap.objs.size->s.heap.get? b=My o->h'.get? b=My o)) E)
    cb.init.plain F.entry_set_init (check_set_init_1 hT ?_)) λ r₂ s₂ hr₂=>?_
   ·obtain⟨ol,hol,hcl,nl,hdl⟩:=id hl
    obtain⟨ocls,odict,odata,oslots⟩:=ol;simp only at hcl hdl;subst hcl;subst hdl;have hol':(s.heap.push N0).get? l=My {cls:=.type "list",dict:=odict,data:=.seq items nl,slots:=oslots}:=ag _ hol;have hsls:=F.sub_list_set;have hslf:=F.sub_list_frozenset;have hne:(Value.type "list"==Value.type "dict")=U7:=by decide
    have hl1:(s.heap.push N0).IsList l items:=⟨_,hol',rfl,nl,rfl⟩;have hS0:(s.heap.push N0).get? s.heap.objs.size=My {cls:=.type "set",dict:=U5,data:=.set #[] 0 (.fresh 0 0 (!(w.params.followText "set-order")))}:=by rw[hS,hN0]
    unfold Builtin.«set.__init__» noKeywords Builtin.Frozenset.updateFrom;generalize hPI:pyIter=PI
    wp_walk
    subst hPI;refine e_ hl1 ?_;refine ae (wpAny_runValue ?_);have hlS:l<s.heap.objs.size:=av hol;have szP:(s.heap.push N0).objs.size=s.heap.objs.size+1:=cH ..;have keep:∀ b o,s.heap.get? b=My o->((s.heap.push N0).push {cls:=.type "list_iterator",data:=.fields #[.ref l,.int 0 0]}).get? b=My o:=λ b o e=>ag _ (ag _ e);refine HH (G:=G) (A:=A.in1.in1) (by simp[hh]) (bN (show A.units+3<=A.units+40 by lia) hu) hk h40 (by rw[szP];exact aM (eE _)) (bU hlS) (by rw[szP];exact aM (dN hlS)) items.size 0 _ [] (by lia) (aT _)
     ⟨_,aF _ rfl,rfl,rfl⟩ (hl1.push _) ⟨_,#[],0,.fresh 0 0 (!(w.params.followText "set-order")),ag _ hS0,⟨rfl,rfl,rfl⟩,rfl,?_,.nil,rfl,rfl,.inl ⟨rfl,aT _⟩,gF⟩ (λ j v hj=>?_) (aw _) (by simp) λ h' tk ks kp S' m'=>?_
    ·exact⟨.inl rfl,rfl,λ a b x y _ e=>by simp[SetTable.fresh]at e,λ i j e=>by simp[SetTable.fresh]at e,rfl,aT _,λ i j h e=>by simp[SetTable.fresh]at e⟩
    ·obtain⟨k,b,q1,q2,q3,g3⟩:=hv j v hj;exact⟨k,b,q1,q2,my q3 (λ o e=>keep b o e),g3⟩
    ·show wpAny _ _ _ _ _ _;refine af ?_;show wpAny _ _ (ret Value.none) _ _ _;refine af ⟨rfl,h',tk,ks,rfl,S',m',λ b o hb e=>kp b o (aM hb) (by rw[szP];exact aM (dN hb)) (keep b o e)⟩
   ·cases r₂ with
    | error e=>exact hr₂
    | ok fl₂ =>
     cases fl₂ with
     | ret r =>
      obtain⟨rfl,h',tk,ks,rfl,S',m',kp⟩:=hr₂;repeat (any_goals (first | assumption | wp_step))
      exact h _ _ _ kp S' m'
     | _=>exact hr₂.elim
  | _=>exact hr.elim
end
end Tb
namespace Tb
open PySem PySem.W PyProof.Rows
def Tr {α:Type}(n:Nat)(c:Nat->Nat->Bool)(R:α->Prop):KasT α->Prop
 | .ret a=>R a
 | .ask i j k=>i<n/\j<n/\Tr n c R (k (c i j))
section
variable {n:Nat}{c:Nat->Nat->Bool}
theorem Tr.wp {α:Type}{cmp:Nat->Nat->(Bool->gM->Prop)->gM->Prop}{s:gM}{R:α->Prop}{Q:α->gM->Prop}(hc:∀ i j C,i<n->j<n->C (c i j) s->cmp i j C s)(hq:∀ a,R a->Q a s):∀ (t:KasT α),Tr n c R t->t.kasWp cmp Q s
 | .ret a,h=>hq a h
 | .ask i j k,⟨h1,h2,h3⟩=>hc i j _ h1 h2 (Tr.wp hc hq (k (c i j)) h3)
theorem Tr.bnd {α β:Type}{R:α->Prop}{R':β->Prop}{f:α->KasT β}(hf:∀ a,R a->Tr n c R' (f a)):∀ (t:KasT α),Tr n c R t->Tr n c R' (t.bind f)
 | .ret a,h=>hf a h
 | .ask i j k,⟨h1,h2,h3⟩=>⟨h1,h2,Tr.bnd hf (k (c i j)) h3⟩
end
section
variable {n:Nat}{O:KeyOrd}{X:Nat->O.α}
def Kp (X:Nat->O.α)(p:Array Nat)(i:Nat):O.α:=X (p.getD i 0)
def Pm (n:Nat)(p:Array Nat):Prop:=0<n/\List.Perm p.toList (U8 n)
theorem Pm.lt {p:Array Nat}(h:Pm n p)(i:Nat):p.getD i 0<n:=by
 rw[bL];cases e:p[i]? with
 | none=>exact h.1
 | some x =>rw[<-bh]at e;exact aC.mp (h.2.mem_iff.mp (bt e))
theorem Pm.size {p:Array Nat}(h:Pm n p):p.size=n:=by have:=h.2.length_eq;simpa using this
theorem Pm.perm {p p':Array Nat}(h:Pm n p)(q:p'.Perm p):Pm n p':=⟨h.1,(Array.perm_iff_toList_perm.mp q).trans h.2⟩
def Sor (X:Nat->O.α)(p:Array Nat)(k:Nat):Prop:=∀ i j,i<=j->j<k->O.kle (Kp X p i) (Kp X p j)
def Non (X:Nat->O.α)(p:Array Nat)(k:Nat):Prop:=∀ i j,i<=j->j<k->O.kle (Kp X p j) (Kp X p i)
theorem DN {p:Array Nat}{i j:Nat}(hj:j<=p.size)(k:Nat):Kp X (kas_rev p i j) k=if i<=k/\k<j then Kp X p (i+j-1-k) else Kp X p k:=by
 unfold Kp kas_rev;rw[bL,getElem?_mirror_all hj];split
 ·rw[bL]
 ·rw[bL]
theorem uR {p:Array Nat}{i j:Nat}(hj:j<=p.size)(h:∀ k,i<=k->k<j->Kp X p k=Kp X p (j-1))(k:Nat):Kp X (kas_rev p i j) k=Kp X p k:=by
 rw[DN hj];split
 ·rw[h _ (by lia (config:={})) (by lia (config:={})),h k (by lia (config:={})) (by lia (config:={}))]
 ·rfl
theorem HI {p:Array Nat}{src d:Nat}(hs:src<p.size)(hd:d<=src)(k:Nat):Kp X (bubble p src d) k=if k=src-d then Kp X p src else if src-d<k/\k<=src then Kp X p (k-1) else Kp X p k:=by
 have g:∀ (q:Array Nat) (i:Nat),Kp X q i=X ((q[i]?).getD 0):=λ q i=>by unfold Kp;rw[bL]
 rw[g,g,g,g,getElem?_bubble hs d hd];split
 ·rfl
 ·split<;>rfl
abbrev cO (X:Nat->O.α):Nat->Nat->Bool:=λ i j=>O.blt (X i) (X j)
theorem HJ {p:Array Nat}(P:Pm n p):∀ (f a:Nat),1<=a->Sor X p a->Tr n (cO X) (λ m=>a<=m/\m<=a+f/\Sor X p m/\(m=a+f\/O.klt (Kp X p m) (Kp X p (m-1)))) (kas_asc p f a)
 | 0,a,h1,h2=>⟨aw _,aw _,h2,.inl rfl⟩
 | f+1,a,h1,h2=>by
  refine⟨P.lt _,P.lt _,?_⟩;show Tr n (cO X) _ (if O.blt (Kp X p a) (Kp X p (a-1))=U6 then .ret a else kas_asc p f (a+1));by_cases h:O.blt (Kp X p a) (Kp X p (a-1))=U6
  ·rw[ai h];exact⟨aw _,by lia,h2,.inr h⟩
  ·rw[au h]
   have hk:O.kle (Kp X p (a-1)) (Kp X p a):=fv h;have h3:Sor X p (a+1):=λ i j hij hj=>by
    by_cases hja:j<a
    ·exact h2 i j hij hja
    ·have:j=a:=by lia
     subst this;by_cases hi:i=j
     ·subst hi;exact dH _
     ·exact eF (h2 i (j-1) (by lia) (by lia)) hk
   have:=HJ P f (a+1) (by lia) h3;refine(show ∀ (t:KasT Nat),Tr n (cO X) _ t->Tr n (cO X) _ t from ?_) _ this;intro t;induction t with
   | ret m=>intro ⟨x1,x2,x3,x4⟩;exact⟨by lia,by lia,x3,by rw[show a+(f+1)=a+1+f by lia];exact x4⟩
   | ask i j k ih=>intro ⟨y1,y2,y3⟩;exact⟨y1,y2,ih _ y3⟩
theorem qF {p:Array Nat}{m:Nat}(h:Non X p m)(h1:1<=m)(hk:O.kle (Kp X p m) (Kp X p (m-1))):Non X p (m+1):=λ i j hij hj=>by
 by_cases hjm:j<m
 ·exact h i j hij hjm
 ·have:j=m:=by lia
  subst this;by_cases hi:i=j
  ·subst hi;exact dH _
  ·exact eF hk (h i (j-1) (by lia) (by lia))
def QR (n:Nat)(X:Nat->O.α)(lo hi:Nat)(r:Array Nat×Nat×Nat):Prop:=Pm n r.1/\Non X r.1 r.2.1/\r.2.2+1<=r.2.1/\lo<=r.2.1/\r.2.1<=hi/\∀ i,r.2.1-(r.2.2+1)<=i->i<r.2.1->Kp X r.1 i=Kp X r.1 (r.2.1-1)
theorem AB:∀ (f:Nat) (p:Array Nat) (m q lo:Nat),Pm n p->m+f<=n->1<=m->lo<=m->Non X p m->q+1<=m->(∀ i,m-(q+1)<=i->i<m->Kp X p i=Kp X p (m-1))->Tr n (cO X) (QR n X lo (m+f)) (kas_desc f p m q)
 | 0,p,m,q,lo,P,hn,h1,hlo,h2,h3,h4=>⟨P,h2,h3,hlo,aw _,h4⟩
 | f+1,p,m,q,lo,P,hn,h1,hlo,h2,h3,h4=>by
  refine⟨P.lt _,P.lt _,?_⟩;have one:∀ (p':Array Nat) i,m+1-(0+1)<=i->i<m+1->Kp X p' i=Kp X p' (m+1-1):=λ p' i a b=>by rw[show i=m by lia];rfl
  show Tr n (cO X) _ (if O.blt (Kp X p m) (Kp X p (m-1))=U6 then _ else _);rw[show m+(f+1)=m+1+f by lia];by_cases h:O.blt (Kp X p m) (Kp X p (m-1))=U6
  ·rw[ai h]
   by_cases hq:q>0
   ·rw[ai hq]
    have hm:m<=p.size:=by rw[P.size];lia
    have ke:=uR (X:=X) (p:=p) (i:=m-(q+1)) (j:=m) hm λ k a b=>h4 k a b;refine AB f _ (m+1) 0 lo (P.perm (mirror_perm _ _ _ _)) (by lia) (by lia) (by lia) (qF (λ i j a b=>?_) h1 ?_) (by lia) (one _)
    ·rw[ke,ke];exact h2 i j a b
    ·rw[ke,ke];exact dO h
   ·rw[au hq];exact AB f p (m+1) 0 lo P (by lia) (by lia) (by lia) (qF h2 h1 (dO h)) (by lia) (one _)
  ·rw[au h]
   refine⟨P.lt _,P.lt _,?_⟩;show Tr n (cO X) _ (if O.blt (Kp X p (m-1)) (Kp X p m)=U6 then _ else _);by_cases h':O.blt (Kp X p (m-1)) (Kp X p m)=U6
   ·rw[ai h'];exact⟨P,h2,h3,hlo,(show m<=m+1+f by lia),h4⟩
   ·rw[au h']
    have e:Kp X p m=Kp X p (m-1):=O.total _ _ (by simpa using h) (by simpa using h');refine AB f p (m+1) (q+1) lo P (by lia) (by lia) (by lia) (qF h2 h1 (by rw[e];exact dH _)) (by lia) λ i a b=>?_;by_cases hi:i=m
    ·rw[hi];rfl
    ·rw[show m+1-1=m by lia,e];exact h4 i (by lia) (by lia)
def Ot (n:Nat)(X:Nat->O.α)(r:Nat×Array Nat):Prop:=Pm n r.2/\Sor X r.2 r.1/\1<=r.1/\r.1<=n
theorem E3 {p:Array Nat}{m:Nat}(P:Pm n p)(h:Non X p m)(h1:1<=m)(hm:m<=n):Tr n (cO X) (Ot n X) (kas_tail3 m n p):=by
 have P1:Pm n (kas_rev p 0 m):=P.perm (mirror_perm _ _ _ _);refine Tr.bnd (λ a ⟨a1,a2,a3,_⟩=>⟨P1,a3,by lia,by lia⟩) _ (HJ P1 (n-m) m h1 λ i j hij hj=>?_);have hz:m<=p.size:=by rw[P.size];exact hm
 rw[DN hz,DN hz,ai (by lia),ai (by lia)];exact h _ _ (by lia) (by lia)
theorem xp {p:Array Nat}{m:Nat}(P:Pm n p)(h:Non X p (m+1))(hm:m+1<=n):Tr n (cO X) (Ot n X) (kas_descPart m n p):=by
 refine Tr.bnd (λ r hr=>?_) _ (AB (n-(m+1)) p (m+1) 0 (m+1) P (by lia) (by lia) (aw _) h (by lia) λ i a b=>by rw[show i=m by lia];rfl);obtain⟨P',N',q1,l1,u1,e1⟩:=hr;by_cases hq:r.2.2>0
 ·rw[ai hq]
  have hz:r.2.1<=r.1.size:=by rw[P'.size];lia
  have ke:=uR (X:=X) (p:=r.1) (i:=r.2.1-(r.2.2+1)) (j:=r.2.1) hz λ k a b=>e1 k a b;refine E3 (P'.perm (mirror_perm _ _ _ _)) (λ i j a b=>?_) (by lia) (by lia);rw[ke,ke];exact N' i j a b
 ·rw[au hq];exact E3 P' N' (by lia) (by lia)
theorem K1 {p:Array Nat}(P:Pm n p):Tr n (cO X) (Ot n X) (kas_count n p):=by
 have hn:=P.1;refine Tr.bnd (λ m ⟨m1,m2,m3,m4⟩=>?_) _ (HJ P (n-1) 1 (aw _) λ i j hij hj=>by rw[show i=0 by lia,show j=0 by lia];exact dH _);by_cases he:m=n
 ·rw[ai (by simpa using he)];exact⟨P,m3,m1,by lia⟩
 ·rw[au (by simpa using he)]
  have hlt:O.klt (Kp X p m) (Kp X p (m-1)):=m4.resolve_left (by lia);by_cases h1:m>1
  ·rw[ai h1]
   refine⟨P.lt _,P.lt _,?_⟩;show Tr n (cO X) _ (if O.blt (Kp X p 0) (Kp X p (m-1))=U6 then _ else _);by_cases h:O.blt (Kp X p 0) (Kp X p (m-1))=U6
   ·rw[ai h];exact⟨P,m3,m1,by lia⟩
   ·rw[au h]
    have hle:O.kle (Kp X p (m-1)) (Kp X p 0):=fv h;have hz:m<=p.size:=by rw[P.size];lia
    have all:∀ k,0<=k->k<m->Kp X p k=Kp X p (m-1):=λ k _ hk=>KeyOrd.kle_antisymm (m3 k (m-1) (by lia) (by lia)) (eF hle (m3 0 k (by lia) hk));have ke:=uR (X:=X) (p:=p) (i:=0) (j:=m) hz all;refine xp (P.perm (mirror_perm _ _ _ _)) (qF (λ i j a b=>?_) m1 ?_) (by lia)
    ·rw[ke,ke,all i (by lia) (by lia),all j (by lia) b];exact dH _
    ·rw[ke,ke];exact dO hlt
  ·rw[au h1]
   have:m=1:=by lia
   subst this;exact xp P (qF (λ i j a b=>by rw[show i=0 by lia,show j=0 by lia];exact dH _) (aw _) (dO hlt)) (by lia)
theorem AD {p:Array Nat}{k:Nat}(P:Pm n p)(S:Sor X p k):∀ (f l r:Nat),l<=r->r<=k->r<=l+f->(∀ i,i<l->O.kle (Kp X p i) (Kp X p k))->(∀ i,r<=i->i<k->O.klt (Kp X p k) (Kp X p i)) ->
  Tr n (cO X) (λ m=>m<=k/\(∀ i,i<m->O.kle (Kp X p i) (Kp X p k))/\∀ i,m<=i->i<k->O.klt (Kp X p k) (Kp X p i)) (kas_place p k f l r)
 | 0,l,r,h1,h2,h3,h4,h5=>by
  have:l=r:=by lia
  subst this;exact⟨h2,h4,h5⟩
 | f+1,l,r,h1,h2,h3,h4,h5=>by
  show Tr n (cO X) _ (if l≥r then .ret l else _);by_cases h:l≥r
  ·rw[ai h]
   have:l=r:=by lia
   subst this;exact⟨h2,h4,h5⟩
  ·rw[au h]
   refine⟨P.lt _,P.lt _,?_⟩;show Tr n (cO X) _ (if O.blt (Kp X p k) (Kp X p ((l+r) / 2))=U6 then _ else _);by_cases hc:O.blt (Kp X p k) (Kp X p ((l+r) / 2))=U6
   ·rw[ai hc];refine AD P S f l ((l+r) / 2) (by lia) (by lia) (by lia) h4 λ i a b=>?_;exact KeyOrd.klt_of_klt_of_kle hc (S _ i a b)
   ·rw[au hc];refine AD P S f ((l+r) / 2+1) r (by lia) h2 (by lia) (λ i a=>?_) h5;exact eF (S i _ (by lia) (by lia)) (fv hc)
theorem M0:∀ (f:Nat) (p:Array Nat) (k:Nat),Pm n p->Sor X p k->k+f=n->Tr n (cO X) (λ p'=>Pm n p'/\Sor X p' n) (kas_bin f p k)
 | 0,p,k,P,S,h=>by
  have:k=n:=by lia
  subst this;exact⟨P,S⟩
 | f+1,p,k,P,S,h=>by
  refine Tr.bnd (λ l ⟨l1,l2,l3⟩=>?_) _ (AD P S k 0 k (aT _) (aw _) (by lia) (λ i hi=>absurd hi (dF _)) λ i a b=>by lia);refine M0 f _ (k+1) (P.perm (bubble_perm _ _ _)) (λ i j hij hj=>?_) (by lia);have hk:k<p.size:=by rw[P.size];lia
  rw[HI hk (by lia),HI hk (by lia),show k-(k-l)=l by lia];by_cases e1:i=l
  ·rw[ai e1]
   by_cases e2:j=l
   ·rw[ai e2];exact dH _
   ·rw[au e2,ai (by lia)];exact dO (l3 (j-1) (by lia) (by lia))
  ·rw[au e1]
   by_cases e2:j=l
   ·rw[ai e2,au (by lia)];exact l2 i (by lia)
   ·rw[au e2]
    by_cases e3:l<i/\i<=k
    ·rw[ai e3,ai (by lia)];exact S _ _ (by lia) (by lia)
    ·rw[au e3]
     by_cases e4:l<j/\j<=k
     ·rw[ai e4]
      by_cases e5:j-1<l
      ·lia
      ·exact eF (l2 i (by lia)) (dO (l3 (j-1) (by lia) (by lia)))
     ·rw[au e4];exact S i j hij (by lia)
theorem Ou (hn:0<n):Tr n (cO X) (λ p=>Pm n p/\Sor X p n) (kas_sort n):=by
 have P0:Pm n (List.toArray (U8 n)):=⟨hn,gE _⟩;refine Tr.bnd (λ r ⟨P,S,r1,r2⟩=>?_) _ (K1 P0);by_cases h:r.1<n
 ·rw[ai h,show max r.1 1=r.1 by lia];exact M0 _ _ _ P S (by lia)
 ·rw[au h]
  have:r.1=n:=by lia
  exact⟨P,this▸S⟩
end
open PySem.Spec
theorem E4 {α:Type}(next:Nat->Nat):∀ (fuel k:Nat) (left:List α) (out:Array α),fuel=left.length->List.Perm (pickOrder.go next fuel k left out).toList (out.toList++left)
 | 0,k,left,out,h=>by have:left=[]:=cS.mp h.symm;subst this;unfold pickOrder.go;simp
 | fuel+1,k,left,out,h=>by
  unfold pickOrder.go;have hl:next k % left.length<left.length:=fy _ (by lia)
  have e:left[next k % left.length]?=My left[next k % left.length]:=by simp[hl]
  rw[e];dsimp only;refine(E4 next fuel (k+1) _ _ (by rw[List.length_eraseIdx_of_lt hl];lia)).trans ?_;rw[Array.toList_push,cy];refine List.Perm.append_left _ ?_;have e2:left=left.take (next k % left.length)++left[next k % left.length]::left.drop (next k % left.length+1):=by rw[<-eG hl,List.take_append_drop]
  have e3:left.eraseIdx (next k % left.length)=left.take (next k % left.length)++left.drop (next k % left.length+1):=List.eraseIdx_eq_take_drop_succ _ _;rw[e3];refine List.Perm.trans ?_ (List.Perm.of_eq e2.symm);rw[List.singleton_append];exact List.perm_middle.symm
theorem Ge {α:Type}(next:Nat->Nat)(xs:Array α):List.Perm (pickOrder next xs).toList xs.toList:=by
 unfold pickOrder;have:=E4 next xs.size 0 xs.toList #[] (by simp)
 simpa using this
theorem xq {xs:Array Nat}(R:Ri xs){j r:Nat}(h:Bel xs j r):Va xs j=r:=by
 obtain⟨a1,a2,a3⟩:=xj R j;obtain⟨b1,b2,b3⟩:=h;rcases fg (Va xs j) r with q | q | q
 ·have hl:Va xs j<xs.size:=by lia
  have e:xs[Va xs j]?=My xs[Va xs j]:=by simp[hl]
  have h1:=b2 _ _ q e;have h2:=a3 _ _ (aw _) e;lia
 ·exact q
 ·have hl:r<xs.size:=by lia
  have e:xs[r]?=My xs[r]:=by simp[hl]
  have h1:=a2 _ _ q e;have h2:=b3 _ _ (aw _) e;lia
theorem DO {xs:Array Nat}(R:Ri xs){i j:Nat}(e:xs[i]?=My j):Va xs (j+1)=i+1:=by
 have hi:=(cp.mp e).1;refine xq R ⟨hi,λ k x hk ek=>?_,λ k x hk ek=>R i k j x hk e ek⟩;by_cases q:k=i
 ·subst q;rw[e]at ek;cases ek;lia
 ·have:=R k i x j (by lia) ek e;lia
theorem DP {xs:Array Nat}(R:Ri xs):Va xs 0=0:=xq R ⟨aT _,λ k x hk=>absurd hk (dF _),λ k x _ _=>aT _⟩
theorem kX:Slot "set_iterator" "__next__" "set_iterator.__next__" :=
 .of (owner:="set_iterator") (n:="__next__") (by rw[typeLookup_type,builtinLookup_eq_fast];kernel_rfl) (by decide +kernel) (by decide +kernel) (by decide +kernel) (by first | exact .inl (by decide +kernel) | exact .inr (by decide +kernel)) (by rw[isSubtype_type];kernel_rfl)
theorem tG:Slot "set_iterator" "__iter__" "set_iterator.__iter__" :=
 .of (owner:="set_iterator") (n:="__iter__") (by rw[typeLookup_type,builtinLookup_eq_fast];kernel_rfl) (by decide +kernel) (by decide +kernel) (by decide +kernel) (by first | exact .inl (by decide +kernel) | exact .inr (by decide +kernel)) (by rw[isSubtype_type];kernel_rfl)
theorem se:entryFor table "set_iterator.__next__"=My Builtin.«set_iterator.__next__»:=entryFor_of_tree (by kernel_rfl)
theorem yQ:entryFor table "set_iterator.__iter__"=My Builtin.«dict_keyiterator.__iter__» :=
 entryFor_alias (id':="dict_keyiterator.__iter__") (by kernel_rfl) rfl (by decide +kernel)
  (by kernel_rfl)
theorem yR:entryFor table "set.__iter__"=My Builtin.«frozenset.__iter__» :=
 entryFor_alias (id':="frozenset.__iter__") (by kernel_rfl) rfl (by decide +kernel) (by kernel_rfl)
theorem B6:Manifest.owners.lookup (String.ofList ['r','o','t','a','r','e','t','i','_','t','e','s'].reverse)=My Manifest.sig_set_iterator:=by kernel_rfl
theorem tH (a:gL):argsOk "set_iterator.__next__" ⟨[a],[]⟩:=by
 unfold argsOk;rw[signature?_of (id:="set_iterator.__next__") (n:=['_','_','t','x','e','n','_','_']) (o:=['r','o','t','a','r','e','t','i','_','t','e','s']) (by kernel_rfl) B6]
 kernel_rfl
theorem AE (a:gL):argsOk "set_iterator.__iter__" ⟨[a],[]⟩:=by
 unfold argsOk;rw[signature?_of (id:="set_iterator.__iter__") (n:=['_','_','r','e','t','i','_','_']) (o:=['r','o','t','a','r','e','t','i','_','t','e','s']) (by kernel_rfl) B6]
 kernel_rfl
section
variable {prog:Program}{w:World}{A:Around}{E:gH}{s:gM}{S I:Addr}{oS:Obj}{es:Array (Int×gL)}{ep:Nat}{t:SetTable}
def seen (w:World)(S:Addr)(ep:Nat)(es:Array (Int×gL)):Array (Int×gL):=if w.params.followText "set-order"=U6 then pickOrder (w.params.setOrder S ep) es else es
theorem rA (w:World)(S:Addr)(ep:Nat)(es:Array (Int×gL)):List.Perm (seen w S ep es).toList es.toList:=by
 unfold seen;split
 ·exact Ge _ _
 ·exact gE _
def SIt (w:World)(S I:Addr)(n ep:Nat)(t:SetTable)(i:Nat)(h:Heap):Prop:=∃ (o:Obj) (slot:Nat),h.get? I=My o/\o.cls=.type "set_iterator"/\o.data=.fields #[rawInt slot,rawInt i,.ref S,rawInt n,rawInt ep]/\(w.params.followText "set-order"=U7->Va t.place slot=i)
theorem AF {Q:Bool->gM->Prop}(h:Q (w.params.followText "set-order") s):wpAny (model prog w) A setsByText Q E s:=by unfold setsByText;exact ae (wpAny_askSetting (af h))
theorem B7 {Q:gJ (gL×Nat)->gM->Prop}{i slot:Nat}(hS:s.heap.get? S=My oS)(hd:oS.data=.set es ep t)(T:TOk t (es.toList.map (·.1)))(hp:t.plain=U6)(hl:t.led=!(w.params.followText "set-order"))
  (hsl:w.params.followText "set-order"=U7->Va t.place slot=i) (h0:(seen w S ep es)[i]?=U5->Q U5 s)
  (h1:∀ hv v nx,(seen w S ep es)[i]?=My (hv,v)->(w.params.followText "set-order"=U7->Va t.place nx=i+1)->Q (My (v,nx)) s):wpAny (model prog w) A (setNext S slot i ep) Q E s:=by
 have hfit:=fits_of T (n:=es.size) (by simp);unfold setNext;refine ae (cm hS hd hfit ?_);dsimp only;refine ae (AF ?_);by_cases hb:w.params.followText "set-order"=U6
 ·have sd:seen w S ep es=pickOrder (w.params.setOrder S ep) es:=by unfold seen;rw[ai hb]
  rw[ai hb];simp only[bne_self_eq_false,aQ,cn];unfold setWalk;refine ae (ae (cm hS hd hfit ?_));dsimp only;refine ae (AF ?_);rw[ai hb];refine ae (wpAny_askSetting (af ?_));refine af ?_;show Q (((pickOrder (w.params.setOrder S ep) es)[i]?).map λ e=>(e.2,slot)) s;rw[<-sd];cases e:(seen w S ep es)[i]? with
  | none=>exact h0 e
  | some v=>exact h1 v.1 v.2 slot e λ z=>by rw[hb]at z;cases z
 ·have hb':w.params.followText "set-order"=U7:=by simpa using hb
  have sd:seen w S ep es=es:=by unfold seen;rw[au hb]
  rw[au hb];have hdr:∀ {α:Type} {a b:Sem α} {R:α->gM->Prop},wpAny (model prog w) A b R E s->wpAny (model prog w) A (if (!t.plain&&decide (es.size>1))=U6 then a else b) R E s:=λ hb=>by rw[hp];simpa using hb
  refine hdr ?_;have hml:∀ {α:Type} {b:Unit->Sem α} {R:α->gM->Prop},wpAny (model prog w) A (b ()) R E s->wpAny (model prog w) A ((if (!t.led&&!es.isEmpty)=U6 then unsupported "set:maker-not-led" else pure ())>>=b) R E s:=λ hb=>by rw[hl,hb'];simp only[gD,ef,gy,aQ,cn];exact ae (af hb)
  refine hml ?_;rw[hsl hb'];refine af ?_;rw[sd]at h0 h1;have hpl:t.place.size=es.size:=by have:=T.sz;simpa using this
  by_cases hi:i<es.size
  ·have e1:es[i]?=My es[i]:=by simp[hi]
   have e2:t.place[i]?=My (t.place[i]'(by lia)):=by simp[show i<t.place.size by lia]
   rw[e1,e2];exact h1 es[i].1 es[i].2 _ e1 λ _=>DO T.ri e2
  ·have e1:es[i]?=U5:=cX (by lia);rw[e1];exact h0 e1
theorem AG {i n:Nat}(x:SIt w S I n ep t i s.heap):s.TypeIs (.ref I) "set_iterator":=let ⟨o,_,ho,hc,_⟩:=x;⟨o,ho,hc⟩
theorem qG {Q:Array (Int×gL)->gM->Prop}(hS:s.heap.get? S=My oS)(hd:oS.data=.set es ep t)(T:TOk t (es.toList.map (·.1)))(h:Q es s):wpAny (model prog w) A (setEntries S) Q E s:=by unfold setEntries;exact ae (cm hS hd (fits_of T (by simp)) (af h))
theorem K2 {i:Nat}{hv:Int}{v:gL}{Q:gJ gL->gM->Prop}(x:SIt w S I es.size ep t i s.heap)(hS:s.heap.get? S=My oS)(hd:oS.data=.set es ep t)(T:TOk t (es.toList.map (·.1)))(hp:t.plain=U6)(hl:t.led=!(w.params.followText "set-order"))
  (hx:(seen w S ep es)[i]?=My (hv,v)) (hQ:∀ h',SIt w S I es.size ep t (i+1) h'->Heap.SameBut I s.heap h'->Q (My v) {s with heap:=h'}):wpAny (model prog w) A (pyNext (.ref I)) Q E s:=by
 have hT:=AG x;obtain⟨o,slot,ho,hc,hdd,hsl⟩:=x;unfold pyNext;refine ae (eQ (bP (name:=Str.ofString "__next__") hT kX (bY kX hT se ?_ (tH _))));unfold Builtin.«set_iterator.__next__»;refine ae (af ?_);refine ae (wpAny_fieldsOf ho hdd ?_);show wpAny _ _ (setEntries S>>=_) _ _ s;refine ae (qG hS hd T ?_);simp only[bne_self_eq_false,aQ,cn];show wpAny _ _ (setNext S slot i ep>>=_) _ _ s;refine ae (B7 hS hd T hp hl hsl (λ z=>by rw[hx]at z;cases z) λ hv' v' nx e1 e2=>?_);rw[hx]at e1;cases e1;dsimp only;refine ae (fi ho hdd (by simp) ?_);have ho1:=dz (Obj.mapFields (·.setIfInBounds 0 (rawInt nx))) ho (fw (dq hdd _));have hd1:=dq hdd (·.setIfInBounds 0 (rawInt nx));refine ae (fi (s:={s with heap:=s.heap.update I (Obj.mapFields (·.setIfInBounds 0 (rawInt nx)))}) ho1 hd1 (by simp) ?_);have ho2:=dz (Obj.mapFields (·.setIfInBounds 1 (rawInt ((i:Int)+1)))) ho1 (fw (dq hd1 _));refine af ⟨_,rfl,af (hQ _ ⟨_,nx,ho2,?_,?_,e2⟩ ((cK ..).trans (cK ..)))⟩
 ·rw[fZ,fZ];exact hc
 ·rw[dq hd1];simp[rawInt]
theorem Ov {i:Nat}{Q:gJ gL->gM->Prop}(hh:A.handled=U5)(x:SIt w S I es.size ep t i s.heap)(hS:s.heap.get? S=My oS)(hd:oS.data=.set es ep t)(T:TOk t (es.toList.map (·.1)))(hp:t.plain=U6)(hl:t.led=!(w.params.followText "set-order"))
  (hx:(seen w S ep es)[i]?=U5) (hQ:∀ h',Heap.ExtBut I s.heap h'->Q U5 {s with heap:=h'}):wpAny (model prog w) A (pyNext (.ref I)) Q E s:=by
 have hT:=AG x;obtain⟨o,slot,ho,hc,hdd,hsl⟩:=x;unfold pyNext;refine ae (eQ (bP (name:=Str.ofString "__next__") hT kX (bY kX hT se ?_ (tH _))));unfold Builtin.«set_iterator.__next__»;refine ae (af ?_);refine ae (wpAny_fieldsOf ho hdd ?_);show wpAny _ _ (setEntries S>>=_) _ _ s;refine ae (qG hS hd T ?_);simp only[bne_self_eq_false,aQ,cn];show wpAny _ _ (setNext S slot i ep>>=_) _ _ s;refine ae (B7 hS hd T hp hl hsl (λ _=>?_) λ hv' v' nx e1 e2=>by rw[hx]at e1;cases e1);dsimp only;refine ae (fi ho hdd (by simp) ?_);show wpAny _ _ (newExc (.type "StopIteration") []>>=_) _ _ _;refine ae ?_;simp only[newExc,newTuple];refine ae (bw ?_ (by size_fits));refine ae (m:=firstArgMember _ _) (wpAny_of_eq (a:=Value.none) (by first | rfl | (simp only[firstArgMember];rfl)) ?_);refine bw ?_ (by size_fits);simp only[raiseNew];refine ae (wpAny_handled ?_);rw[show A.in1.handled=U5 from hh];refine ae (af (wpAny_throw ?_));refine ae (wpAny_isInstance (T:="StopIteration") (b:=U6) ⟨_,aF _ rfl,rfl⟩ isSubtype_stop ?_);exact af (hQ _ (((cK ..).extBut.push _).push _))
theorem HK (hh:A.handled=U5)(hne:S≠I)(hd:oS.data=.set es ep t)(T:TOk t (es.toList.map (·.1)))(hp:t.plain=U6)(hl:t.led=!(w.params.followText "set-order")) :
  Walks prog w A I [I,S] [I] es.size (λ i v=>∃ hv,(seen w S ep es)[i]?=My (hv,v)) (λ i h=>SIt w S I es.size ep t i h/\h.get? S=My oS) where
 sub:=λ b hb=>by simp at hb;simp[hb]
 frame:=λ i h h' st hk=>⟨let ⟨o,sl,ho,r⟩:=st.1;⟨o,sl,hk I (by simp) o ho,r⟩,hk S (by simp) oS st.2⟩
 item:=λ i s Q E hi st hQ=>by
  have hz:(seen w S ep es).size=es.size:=by have:=(rA w S ep es).length_eq;simpa using this
  have e:(seen w S ep es)[i]?=My (seen w S ep es)[i]:=by simp[hz,hi]
  exact K2 st.1 st.2 hd T hp hl (hv:=(seen w S ep es)[i].1) (v:=(seen w S ep es)[i].2) e λ h' st' sb =>hQ _ h' s.toks ⟨_,e⟩ ⟨st',(sb.2 S hne).trans st.2⟩ λ b o hb q=>(sb.2 b (by simpa using hb)).trans q
 done:=λ s Q E st hQ=>by
  have hz:(seen w S ep es).size=es.size:=by have:=(rA w S ep es).length_eq;simpa using this
  exact Ov hh st.1 st.2 hd T hp hl (cX (by lia)) λ h' eb=>hQ h' s.toks λ b o hb q=>eb b o (by simpa using hb) q
 self:=λ i s Q E st hQ=>by have hT:=AG st.1;refine wpAny_pyIter_slot hT tG (bY tG hT yQ ?_ (AE _));unfold Builtin.«dict_keyiterator.__iter__»;refine ae (af ?_);exact af ⟨_,rfl,"set_iterator",_,hT,kX.lookup,hQ⟩
end
end Tb
namespace L2
open PySem PySem.Spec PyProof.Rows
def DQ (env:Env):List (Str×NameKind)->List (Str×Addr)->List (Str×Addr)
 | [],cs=>cs
 | (n,k)::r,cs=>DQ env r (if k==.free then (n,(env.cells.lookup n).getD 0)::cs else cs)
def yS (scope:Scope)(env:Env):List (Str×Addr):=DQ env scope.names []
theorem xr {scope:Scope}{env:Env}(h:∀ x∈scope.names,x.2=.free->∃ c,env.cells.lookup x.1=My c):closureFor scope env=pure (yS scope env):=by
 unfold closureFor yS;generalize scope.names=l at h ⊢;generalize hcs:([]:List (Str×Addr))=cs;clear hcs;induction l generalizing cs with
 | nil=>simp only[DQ,fT,pure_bind]
 | cons a r ih =>
  obtain⟨n,k⟩:=a;have ih':=λ cs=>ih (λ x hx=>h x (ay _ hx)) cs;simp only[eT,DQ];by_cases e:k=.free
  ·subst e;obtain⟨c,hc⟩:=h (n,.free) aB rfl;have hc:env.cells.lookup n=My c:=hc;simp only[cellOf,hc,beq_self_eq_true,dJ,eA,pure_bind];exact ih' _
  ·have e':(k==NameKind.free)=U7:=beq_eq_false_iff_ne.mpr e;simp only[e',aQ,cn,pure_bind];exact ih' _
theorem B8 {env:Env}:∀ (l:List (Str×NameKind)) (cs:List (Str×Addr)),(∀ x∈l,x.2=.free->∃ c,env.cells.lookup x.1=My c)->(∀ x c,cs.lookup x=My c->env.cells.lookup x=My c) ->
  ∀ x c,(DQ env l cs).lookup x=My c->env.cells.lookup x=My c
 | [],_,_,h2,x,c,e=>h2 x c e
 | (n,k)::r,cs,h1,h2,x,c,e=>by
  refine B8 r _ (λ y hy=>h1 y (ay _ hy)) (λ y d q=>?_) x c e;by_cases hk:k=.free
  ·subst hk
   obtain⟨d',hd⟩:=h1 (n,.free) aB rfl;have hd:env.cells.lookup n=My d':=hd;rw[ai (by decide),hd,eA,aX]at q;cases hx:y==n with
   | true =>
    rw[hx]at q;have:y=n:=by simpa using hx
    subst this;cases q;exact hd
   | false=>rw[hx]at q;exact h2 y d q
  ·rw[au (by simpa using hk)]at q;exact h2 y d q
theorem zH {env:Env}:∀ (l:List (Str×NameKind)) (cs:List (Str×Addr)) (x:Str),(∃ c,cs.lookup x=My c)->∃ c,(DQ env l cs).lookup x=My c
 | [],_,_,h=>h
 | (n,k)::r,cs,x,h=>by
  refine zH r _ x ?_;split
  ·rw[aX]
   cases hx:x==n with
   | true=>exact⟨_,rfl⟩
   | false=>exact h
  ·exact h
theorem B9 {env:Env}:∀ (l:List (Str×NameKind)) (cs:List (Str×Addr)) (x:Str),(x,NameKind.free)∈l->∃ c,(DQ env l cs).lookup x=My c
 | (n,k)::r,cs,x,h=>by
  rcases aD.mp h with e | h
  ·have e1:x=n:=cN Prod.fst e;have e2:NameKind.free=k:=cN Prod.snd e;refine zH r _ x ?_;rw[<-e2,<-e1,ai (by decide),aX];simp
  ·exact B9 r _ x h
theorem qH {env:Env}:∀ {names:List (Str×NameKind)} {x:Str} {k:NameKind},
  (names.map λ(n,k)=>if (k==NameKind.free&&env.scope.kind==.function&&env.kindOf n==My .cell) then (n,NameKind.cell) else (n,k)).lookup x=My k ->
  ∃ k0,(x,k0)∈names/\names.lookup x=My k0/\(k=k0\/(k0=.free/\k=.cell))
 | [],_,_,h=>by simp at h
 | (n,k')::r,x,k,h=>by
  have h:List.lookup x ((if (k'==NameKind.free&&env.scope.kind==.function&&env.kindOf n==My .cell)=U6 then (n,NameKind.cell) else (n,k'))::_)=_:=h;cases hx:x==n with
  | true =>
   have e:x=n:=by simpa using hx
   subst e;by_cases hc:(k'==NameKind.free&&env.scope.kind==.function&&env.kindOf x==My .cell)=U6
   ·rw[ai hc,aX,hx]at h;simp at hc;cases h;exact⟨k',aB,by rw[aX,hx],.inr ⟨hc.1.1,rfl⟩⟩
   ·rw[au hc,aX,hx]at h;cases h;exact⟨k',aB,by rw[aX,hx],.inl rfl⟩
  | false =>
   have h':List.lookup x (r.map λ(n,k)=>if (k==NameKind.free&&env.scope.kind==.function&&env.kindOf n==My .cell) then (n,NameKind.cell) else (n,k))=My k:=by
    by_cases hc:(k'==NameKind.free&&env.scope.kind==.function&&env.kindOf n==My .cell)=U6
    ·rw[ai hc,aX,hx]at h;exact h
    ·rw[au hc,aX,hx]at h;exact h
   obtain⟨k0,m0,l0,o0⟩:=qH h';exact⟨k0,ay _ m0,by rw[aX,hx];exact l0,o0⟩
theorem oh {env:Env}:∀ {names:List (Str×NameKind)} {x:Str},names.lookup x=My .free ->
  (names.map λ(n,k)=>if (k==NameKind.free&&env.scope.kind==.function&&env.kindOf n==My .cell) then (n,NameKind.cell) else (n,k)).lookup x=My .free \/
  (names.map λ(n,k)=>if (k==NameKind.free&&env.scope.kind==.function&&env.kindOf n==My .cell) then (n,NameKind.cell) else (n,k)).lookup x=My .cell
 | [],_,h=>by simp at h
 | (n,k')::r,x,h=>by
  show List.lookup x ((if (k'==NameKind.free&&env.scope.kind==.function&&env.kindOf n==My .cell)=U6 then (n,NameKind.cell) else (n,k'))::_)=_\/List.lookup x ((if (k'==NameKind.free&&env.scope.kind==.function&&env.kindOf n==My .cell)=U6 then (n,NameKind.cell) else (n,k'))::_)=_;cases hx:x==n with
  | true =>
   rw[aX,hx]at h;cases h;by_cases hc:(NameKind.free==NameKind.free&&env.scope.kind==.function&&env.kindOf n==My .cell)=U6
   ·rw[ai hc,aX,hx];exact .inr rfl
   ·rw[au hc,aX,hx];exact .inl rfl
  | false =>
   rw[aX,hx]at h;by_cases hc:(k'==NameKind.free&&env.scope.kind==.function&&env.kindOf n==My .cell)=U6
   ·rw[ai hc,aX,hx];exact oh h
   ·rw[au hc,aX,hx];exact oh h
structure lY (X:Cx)(scope:Scope)(own fr:List Str)(ix:List Nat):Prop where
 kind:scope.kind=.function
 loc:∀ x∈scope.names,x.2=.local->scope.names.lookup x.1=My .local
 HL:∀ x∈scope.names,x.2≠.cell
 free:∀ x∈scope.names,x.2=.free->X.env.kindOf x.1=My .cell\/X.env.kindOf x.1=My .free
 UX:∀ x∈own,scope.names.lookup x=My .local
 fr':∀ x∈fr,scope.names.lookup x=My .free
 ix':ix.map (λ i=>X.N[i]?)=fr.map My
 nd:(own++fr).Nodup
def Cx.comp (X:Cx)(N:List Str)(scope:Scope)(C:Addr)(s:gM)(H:Hp)(fp:List Addr):Cx :=
 {X with N:=N,s₀:=s,H₀:=H,env:=compEnvC scope (yS scope X.env) C X.env,outer:=X.stack,stack:=X.stack,ex:=fp,fn:=λ _=>U7,pn:=[],xe:=λ _ _=>False}
def kH (own:List Str)(ix:List Nat)(σ:St):St:=own.map (λ _=>U5)++ix.map λ i=>(σ[i]?).getD U5
def PF (X:Cx)(ifs:List Expr)(t:TT):Prop :=
 ∀ (pins:gO) (s:gM) (σ:St) (H:Hp) (Q:Bool->Hp->Prop),Inv X pins σ H s->t σ H Q ->
  wpAny (model X.prog X.w) X.A (forIn ifs U6 λ c r=>if r=U6 then do let ok<-isTrue c X.env (eval c X.env);pure (ForInStep.yield ok) else pure (ForInStep.yield r)) (TP X pins σ Q) X.xe s
def HM:TT:=λ _ H Q=>Q U6 H
theorem DR {X:Cx}:PF X [] HM:=λ _ _ _ H _ I h=>wpAny_tests_nil ⟨H,I,h⟩
theorem Ow {X:Cx}{c:Expr}{t:TT}(h:PT X c t):PF X [c] t:=λ pins s σ H Q I q=>wpAny_tests_one (h pins s σ H Q I q)
theorem AH {prog:Program}{w:World}{A:Around}{R:Result->gM->Prop}{s:gM}{elt target iter:Expr}{ifs:List Expr}{scope:Scope}{pos:Pos}{it acc:gL}{env:Env}(I:Nat->gM->Prop)
  (turn:∀ n s,I n s->wpAny (model prog w) A (pyNext it) (λ r s₁=>match r with
   | none=>R (.ok .next) s₁
   | some v=>wpAny (model prog w) A (letOwnedTupleGo target it v) (λ _ s₁'=>wpAny (model prog w) A (assign target env v) (λ _ s₂ =>
     wpAny (model prog w) A (forIn ifs U6 λ c r=>if r=U6 then do let ok<-isTrue c env (eval c env);pure (ForInStep.yield ok) else pure (ForInStep.yield r)) (λ ok s₃ =>
      if ok=U6 then wpAny (model prog w) A (eval elt env) (λ x s₄ =>wpAny (model prog w) A (call (.builtin "list.append") [acc,x]) (λ _ s₅=>∃ m,m<n/\I m s₅) (λ _ _=>False) s₄) (λ _ _=>False) s₃
      else ∃ m,m<n/\I m s₃) (λ _ _=>False) s₂) (λ _ _=>False) s₁') (λ _ _=>False) s₁) (λ _ _=>False) s)
  (n:Nat) (h:I n s) :
  codeAny (model prog w) A (.compLoop (.ListComp elt [⟨target,iter,ifs,0⟩] scope pos) 0 it acc env) R s:=by
 refine codeAny_loop rfl I (λ n s hI=>?_) n h;show wpAny _ A ((compTurn (.ListComp elt [⟨target,iter,ifs,0⟩] scope pos) 0 it acc env).onRaise (λ x=>do noteFrame x env;theTreesLotGoes x)) _ _ s;refine wpAny_noted ?_;rw[compTurn_list];have nox:∀ {α:Type} {t:Sem α} {Q Q':α->gM->Prop} {E:gH} {s:gM},wpAny (model prog w) A t Q (λ _ _=>False) s->(∀ a s,Q a s->Q' a s)->wpAny (model prog w) A t Q' E s:=λ h hq=>dh h hq λ _ _ z=>z.elim;refine ae (f6 (ae (nox (turn n s hI) λ r s₁ h₁=>?_)));cases r with
 | none=>exact af h₁
 | some v =>
  refine ae (nox h₁ λ _ s₁' h₁'=>ae (nox h₁' λ _ s₂ h₂=>ae (nox h₂ λ ok s₃ h₃=>?_)));cases ok with
  | false=>exact af ⟨rfl,h₃⟩
  | true=>exact ae (ae (nox h₃ λ x s₄ h₄=>ae (nox h₄ λ _ s₅ h₅=>af (af ⟨rfl,h₅⟩))))
section
variable {X:Cx}{pins:gO}{σ:St}{H:Hp}{s:gM}{own fr:List Str}{ix:List Nat}{scope:Scope}
theorem lY.cells (S:lY X scope own fr ix)(ok:X.Ok):∀ x∈scope.names,x.2=.free->∃ c,X.env.cells.lookup x.1=My c:=λ x hx e=>ok.has x.1 (S.free x hx e)
theorem lY.sub (S:lY X scope own fr ix)(ok:X.Ok):∀ x c,(yS scope X.env).lookup x=My c->X.env.cells.lookup x=My c :=
 B8 scope.names [] (S.cells ok) (λ x c e=>by simp at e)
theorem lY.QS (S:lY X scope own fr ix){x:Str}(h:(relabel scope X.env).names.lookup x=My .cell\/(relabel scope X.env).names.lookup x=My .free):∃ c,(yS scope X.env).lookup x=My c:=by
 have go:∀ k,(k=.cell\/k=.free)->(relabel scope X.env).names.lookup x=My k->∃ c,(yS scope X.env).lookup x=My c:=λ k hk e=>by
  obtain⟨k0,m0,l0,o0⟩:=qH e;have:k0=.free:=by
   rcases o0 with o0 | o0
   ·rcases hk with z | z
    ·exact absurd (o0▸z) (S.HL (x,k0) m0)
    ·exact o0▸z
   ·exact o0.1
  subst this;exact B9 scope.names [] x m0
 rcases h with h | h
 ·exact go _ (.inl rfl) h
 ·exact go _ (.inr rfl) h
theorem Inv.enter (I:Inv X pins σ H s)(S:lY X scope own fr ix){fp:List Addr}(hf:∀ b∈fp,vO X pins H b)(hlt:∀ b∈fp,b<s.heap.objs.size){C:Addr}{h':Heap}{tk:Nat}{m:gG}(hC:s.heap.objs.size<=C)(hns:h'.Ns C m)
  (k:∀ b o,s.heap.get? b=My o->h'.get? b=My o):Inv (X.comp (own++fr) scope C s H fp) [] (kH own ix σ) H {s with heap:=h',toks:=tk}:=by
 have subS:∀ b,b∈frs X.stack->b∈X.env.locals::X.fs:=I.wN;have cl:=S.sub I.ok;have cellAt:∀ x c,(yS scope X.env).lookup x=My c->∃ v,h'.IsCell c v:=λ x c e=>by obtain⟨v,o,ho,hd⟩:=I.cell x c (cl x c e);exact⟨v,o,k c o ho,hd⟩
 refine⟨⟨I.ok.mod,S.kind,I.ok.glob,I.ok.blt,hC,λ x y c h1 h2=>I.ok.inj x y c (cl x c h1) (cl y c h2),λ x hx=>S.QS hx,λ x c h=>absurd h (by simp[Cx.comp]),I.ok.hd,I.ok.frames,.inl rfl,λ b hb=>⟨?_,λ x c e=>(hf b hb).2.2.2.2.1 x c (cl x c e)⟩,I.bs,bD I.ok.bsz I.sz,λ b o e hb=>?_,λ b hb z=>?_,I.stack,I.sX⟩,
  rfl,I.bare,Un.kept k,⟨m,hns,λ i x v e1 e2 e3=>?_⟩,cellAt,I.hok.fresh hC,λ x c e=>I.mK x c (cl x c e),λ p hp=>absurd hp (by simp[Cx.comp]),I.hok.kept k,?_⟩
 ·exact aM (aG (hlt b hb) hC)
 ·rcases (hf b hb).2.2.2.1 with z | z
  ·exact I.ok.Dj b o e z
  ·exact absurd (aG (av e) (bD I.ok.bsz z)) (aV _)
 ·rcases aD.mp (subS b z) with q | q
  ·exact(hf b hb).2.1 q
  ·exact(hf b hb).2.2.1 q
 ·have e1:(own++fr)[i]?=My x:=e1
  have hi:own.length<=i:=by
   refine fx λ hlt'=>?_;unfold kH at e2;rw[bS (by simpa using hlt'),aH]at e2;cases q:own[i]? with
   | none=>rw[q]at e2;cases e2
   | some a=>rw[q]at e2;cases e2
  rw[bM hi]at e1;unfold kH at e2;rw[bM (by simpa using hi),aH,ah]at e2;cases q:ix[i-own.length]? with
  | none=>rw[q]at e2;cases e2
  | some i' =>
   rw[q]at e2;have e2:(σ[i']?).getD U5=My v:=ao e2;have e3':σ[i']?=My (My v):=by
    cases r:σ[i']? with
    | none=>rw[r]at e2;cases e2
    | some w=>rw[r]at e2;exact cN My e2
   have eN:X.N[i']?=My x:=by have:=cN (λ l=>l[i-own.length]?) S.ix';simp only[aH,q,e1,cq]at this;exact ao this
   have hfr:=S.fr' x (bt e1);have hk:=S.free (x,.free) (cU hfr) rfl;obtain⟨m0,_,hl0⟩:=I.loc;obtain⟨u,ru,lk⟩:=hl0 i' x v eN e3' (.inr hk);refine⟨u,ru,.inr ⟨(oh (env:=X.env) hfr).symm,?_⟩⟩;rcases lk with⟨hk',_⟩ | ⟨_,c,hc,hcell⟩
   ·rcases hk with hk | hk<;>(rw[hk']at hk;cases hk)
   ·obtain⟨c',hc'⟩:=S.QS (x:=x) (oh (env:=X.env) hfr).symm;have:=cl x c' hc';rw[hc]at this;cases this;obtain⟨o,ho,hd⟩:=hcell;exact⟨c,hc',o,k c o ho,hd⟩
 ·show(kH own ix σ).length=(own++fr).length;have:=cN List.length S.ix';simp only[ah]at this;simp[kH,this]
theorem Inv.B_ {D:Addr}{o:HO}(I:Inv X pins σ H s)(hn:H D=U5)(hs:X.s₀.heap.objs.size<=D)(hL:D≠X.env.locals)(hc:∀ x c,X.env.cells.lookup x=My c->c≠D)(hp:∀ p∈X.pn++pins,p.1≠D)
  (new:jH X.prog X.w (upd H D o) s.heap D o):Inv X pins σ (upd H D o) s:=by
 have ne:∀ b u,H b=My u->b≠D:=λ b u e z=>by rw[z,hn]at e;cases e
 refine⟨I.ok,I.os,I.bare,⟨I.base.keep,I.base.slot,λ b ob e n hx=>?_,I.base.there,λ b xs e=>?_,λ b ob u e=>?_,λ b ps e=>?_⟩,I.loc,I.cell,?_,λ x c e=>?_,λ p hp'=>?_,λ b u e=>?_,I.len⟩
 ·have:b≠D:=aM (aG (av e) hs);rw[hU this];exact I.base.free b ob e n hx
 ·have q:=I.base.qq b xs e;rw[hU (ne _ _ q)];exact q
 ·have q:=I.base.qr b ob u e;rw[hU (ne _ _ q)];exact q
 ·obtain⟨more,q⟩:=I.base.uE b ps e;exact⟨more,by rw[hU (ne _ _ q)];exact q⟩
 ·rw[hU hL.symm];exact I.free
 ·rw[hU (hc x c e)];exact I.mK x c e
 ·obtain⟨a1,a2,a3⟩:=I.pin p hp';exact⟨a1,by rw[hU (hp p hp')];exact a2,a3⟩
 ·by_cases hb:b=D
  ·subst hb;rw[gZ]at e;cases e;exact new
  ·rw[hU hb]at e;exact(I.hok b u e).wM (λ c v _ q=>q) (λ c q=>by rw[hU (ne _ _ q)];exact q) λ c xs q=>by rw[hU (ne _ _ q)];exact q
end
def DS (n:Nat)(g:TG):Prop:=∀ x σ H (Q:St->Hp->Prop),g x σ H Q->g x σ H λ σ2 H2=>(∀ j,n<=j->σ2[j]?=σ[j]?)/\σ2.length=σ.length/\Q σ2 H2
def E5 (n:Nat)(g:TGs):Prop:=∀ xs σ H (Q:St->Hp->Prop),g xs σ H Q->g xs σ H λ σ2 H2=>(∀ j,n<=j->σ2[j]?=σ[j]?)/\σ2.length=σ.length/\Q σ2 H2
theorem iO {n i:Nat}(h:i<n:=by decide):DS n (iW i):=λ x σ H Q q=>⟨λ j hj=>bZ (by lia),by simp,q⟩
theorem oR {n:Nat}:E5 n Hb:=λ xs σ H Q ⟨e,q⟩=>⟨e,λ _ _=>rfl,rfl,q⟩
theorem jX {n i:Nat}{u:TGs}(h:i<n)(h2:E5 n u):E5 n (vg (iW i) u):=λ xs σ H Q ⟨v,r,e,q⟩=>by refine⟨v,r,e,?_⟩;have q2:=h2 r (σ.set i (My v)) H Q q;have q3:=h2 r (σ.set i (My v)) H _ q2;show u r (σ.set i (My v)) H _;refine Eq.mp ?_ q2;congr 1;funext σ2 H2;simp only[List.length_set];refine propext ⟨λ⟨a,b,c⟩=>⟨λ j hj=>(a j hj).trans (bZ (by lia)),b,c⟩,λ⟨a,b,c⟩=>⟨λ j hj=>(a j hj).trans (bZ (by lia)).symm,b,c⟩⟩
theorem qI {n k:Nat}{K:gK}{t:TGs}(h:E5 n t):DS n (Hc K k t):=λ x σ H Q ⟨a,xs,e,h1,h2,q⟩=>⟨a,xs,e,h1,h2,h xs σ H Q q⟩
def tLC (own:List Str)(ix:List Nat)(wi:TI)(g:TG)(tc:TT)(te:TE):TE:=λ σ H Q=>wi σ H λ J H1=>∃ W:Nat->Nat->List V->Hp->Prop,(∃ m,W 0 m [] H1)/\∀ i m ys H,W i m ys H ->
 (J.stop i H/\∀ p,H p=U5->Q (.ref p) (upd H p (.lst ys))) \/
 (J.go i H/\ys.length<sizeLine/\∀ x H',J.yld i H x H'->g x (kH own ix σ) H' λ σ2 H2=>tc σ2 H2 λ b H3=>if b=U6 then te σ2 H3 λ y H4=>∃ m',m'<m/\W (i+1) m' (ys++[y]) H4 else ∃ m',m'<m/\W (i+1) m' ys H3)
section
variable {X:Cx}{pins:gO}{σ:St}{H:Hp}{s:gM}{own fr:List Str}{ix:List Nat}{scope:Scope}{tg iter elt:Expr}{ifs:List Expr}{pos:Pos}{g:TG}{tc:TT}{te:TE}
theorem Ca (I:Inv X pins σ H s)(hc:X.calm=U6)(S:lY X scope own fr ix){J:It}{fp:List Addr}{it:Addr}{tn:Nat->Heap->Prop}(T:Turn X.prog X.w X.K tg J fp it tn)(st:tn 0 s.heap)(hf:∀ b∈fp,vO X pins H b)
  (hg:∀ C,PG (X.comp (own++fr) scope C s H fp) tg g) (hgo:DS own.length g) (ht:∀ C,PF (X.comp (own++fr) scope C s H fp) ifs tc) (he:∀ C,PE (X.comp (own++fr) scope C s H fp) elt te)
  {Qe:VK} {W:Nat->Nat->List V->Hp->Prop} {m0:Nat} (w0:W 0 m0 [] H) (turn:∀ i m ys H,W i m ys H ->
   (J.stop i H/\∀ p,H p=U5->Qe (.ref p) (upd H p (.lst ys))) \/
   (J.go i H/\ys.length<sizeLine/\∀ x H',J.yld i H x H'->g x (kH own ix σ) H' λ σ2 H2=>tc σ2 H2 λ b H3=>if b=U6 then te σ2 H3 λ y H4=>∃ m',m'<m/\W (i+1) m' (ys++[y]) H4 else ∃ m',m'<m/\W (i+1) m' ys H3))
  {E:gH} {RR:gL->Addr->Result->gM->Prop}
  (fin:∀ D C s' H',Inv X pins σ H' s'->Qe (.ref D) H'->s.heap.objs.size<=C->H' C=U5->(∃ m,s'.heap.Ns C m)->RR (.ref D) C (.ok .next) s') :
  wpAny (model X.prog X.w) X.A (newList []) (λ acc s₃=>wpAny (model X.prog X.w) X.A (newFunctionEnv scope X.env.globals (yS scope X.env) [] X.env.qual U5 .none (My X.env)) (λ cenv s₄ =>codeAny (model X.prog X.w) X.A (.compStart (.ListComp elt [⟨tg,iter,ifs,0⟩] scope pos) 0 (.ref it) acc {cenv with scope:=relabel scope X.env}) (RR acc cenv.locals) s₄) E s₃) E s:=by
 refine bw (wpAny_newFunctionEnv S.HL (by intro y hy;simp at hy) (λ h₁ hns₁ hsb₁=>?_) S.kind);dsimp only at hns₁ hsb₁ ⊢;generalize hH2:s.heap.push {cls:=.type "list",dict:=U5,data:=.seq ([]:List gL).toArray}=H2 at hns₁ hsb₁ ⊢;have hC:H2.objs.size=s.heap.objs.size+1:=by rw[<-hH2,cH]
 have hDC:s.heap.objs.size≠H2.objs.size:=by rw[hC];exact aM (eE _)
 have hCle:s.heap.objs.size<=H2.objs.size:=by rw[hC];exact gA _
 have below:∀ b,b<s.heap.objs.size->b≠H2.objs.size/\b≠s.heap.objs.size:=λ b hb=>⟨by rw[hC];exact aM (dN hb),aM hb⟩;have old:∀ b o,s.heap.get? b=My o->h₁.get? b=My o:=λ b o e=>hsb₁.extBut b o (below b (av e)).1 (ag _ (hH2▸ag _ e));have hacc:h₁.PlainList s.heap.objs.size #[]:=⟨_,hsb₁.extBut _ _ hDC (ag _ (hH2▸aF _ rfl))⟩;have hlt:∀ b∈fp,b<s.heap.objs.size:=λ b hb=>by obtain⟨o,e,_⟩:=T.obj 0 s.heap st b hb;exact av e
 generalize hDD:s.heap.objs.size=D,hCC:H2.objs.size=C at *;have hDs:s.heap.objs.size<=D:=fM hDD;have I0:Inv (X.comp (own++fr) scope C s H fp) [] (kH own ix σ) H {s with heap:=h₁,toks:=s.toks+([]:List (Str×gL)).length}:=I.enter S hf (by rw[hDD];exact hlt) (by rw[hDD];exact hCle) hns₁ old;have st0:tn 0 h₁:=T.keep 0 _ _ st λ b _ o e=>old b o e;have nfs:D∉frs X.stack:=λ z=>by obtain⟨_,o,ho,_⟩:=I.stack.mem z;exact absurd (av ho) (by rw[hDD];exact aV _)
 have ncell:∀ x c,(yS scope X.env).lookup x=My c->c≠D:=λ x c e z=>by obtain⟨v,q⟩:=I.cell x c (S.sub I.ok x c e);exact absurd q.lt (by rw[z,hDD];exact aV _)
 have nfp:D∉fp:=λ z=>aV _ (hlt D z);have fpS:∀ b∈fp,b∉frs X.stack:=λ b hb z=>by
  rcases aD.mp (I.wN b z) with q | q
  ·exact(hf b hb).2.1 q
  ·exact(hf b hb).2.2.1 q
 have fpO:∀ (pl:gO) (H':Hp),(∀ p∈pl,p.1=D)->(∀ b∈fp,H' b=U5)->∀ b∈fp,vO (X.comp (own++fr) scope C s H fp) pl H' b:=λ pl H' hpl hn b hb =>
  ⟨hn b hb,(below b (hlt b hb)).1,fpS b hb,.inl hb,λ x c e=>(hf b hb).2.2.2.2.1 x c (S.sub I.ok x c e),λ p hp z=>by
   have hp:p∈pl:=by simpa [Cx.comp] using hp
   rw[hpl p hp]at z;exact nfp (z▸hb)⟩
 have loop:∀ s₃:gM,s₃={s with heap:=h₁,toks:=s.toks+([]:List (Str×gL)).length} ->
   codeAny (model X.prog X.w) X.A (.compLoop (.ListComp elt [⟨tg,iter,ifs,0⟩] scope pos) 0 (.ref it) (.ref D) (compEnvC scope (yS scope X.env) C X.env)) (RR (.ref D) C) s₃:=by
  rintro s₃ rfl;refine AH (λ n s'=>∃ i ys its H',Inv (X.comp (own++fr) scope C s H fp) [] (kH own ix σ) H' s'/\s'.heap.PlainList D its/\Vals ys its.toList/\H' D=U5/\tn i s'.heap/\(∀ b∈fp,H' b=U5)/\ys.length<=sizeLine/\W i n ys H') ?_ m0
   ⟨0,[],#[],H,I0,hacc,.nil,I.hok.fresh hDs,st0,λ b hb=>(hf b hb).1,aT _,w0⟩
  rintro n s' ⟨i,ys,its,H',I',acc',rv,hD',st',fr',hz,w'⟩;obtain⟨na,ha⟩:=id acc';have I1:Inv (X.comp (own++fr) scope C s H fp) [(D,{cls:=.type "list",data:=.seq its na})] (kH own ix σ) H' s':=I'.wc λ p hp=>by
   have e:p=(D,({cls:=.type "list",data:=.seq its na}:Obj)):=by simpa using hp
   subst e;exact⟨ha,hD',hDC,nfs,λ v z=>by cases z⟩
  have hpl:∀ p∈[(D,({cls:=.type "list",data:=.seq its na}:Obj))],p.1=D:=λ p hp=>by
   have e:p=(D,({cls:=.type "list",data:=.seq its na}:Obj)):=by simpa using hp
   rw[e]
  rcases turn i n ys H' w' with⟨stop,qn⟩ | ⟨go,hys,step⟩
  ·refine thn (T.done (X.comp (own++fr) scope C s H fp) rfl rfl rfl hc i _ s' _ H' _ I1 (fpO _ H' hpl fr') st' stop) λ r s1 ⟨hr,I2⟩=>?_
   subst hr;have hD1:=(I2.pin (D,_) (aR _ (bp.mpr rfl))).1;obtain⟨m1,hm1,_⟩:=I2.loc;have J1:Inv X pins σ H' s1:=I.QA I2.os I2.base I2.hok I2.bare λ b hb=>⟨(hf b hb).2.2.2.1,(hf b hb).2.1,(hf b hb).2.2.2.2.1,(hf b hb).2.2.2.2.2⟩;have hXD:X.s₀.heap.objs.size<=D:=by rw[<-hDD];exact I.sz
   have J2:Inv X pins σ (upd H' D (.lst ys)) s1:=J1.B_ hD' hXD (bU (by rw[<-hDD];exact I.lt)) (λ x c e z=>by
     obtain⟨v,q⟩:=I.cell x c e;exact absurd q.lt (by rw[z,hDD];exact aV _)) (λ p hp z=>by
     have:=av (I.pin p hp).1;rw[z,hDD]at this;exact aV _ this) ⟨hz,its.toList,na,rv,by simpa using hD1⟩
   exact fin D C s1 _ J2 (qn D hD') hCle (by rw[hU (aZ hDC)];exact I2.free) ⟨m1,hm1⟩
  ·refine thn (T.item (X.comp (own++fr) scope C s H fp) rfl rfl rfl hc i _ s' _ H' _ I1 (fpO _ H' hpl fr') st' go) λ r s1 ⟨u,hr,h1⟩=>?_
   subst hr;refine thn h1 λ _ s2 ⟨x,H2',I2,r2,y2,st2,fr2⟩=>?_;have I2':=I2.pinned (fpO _ H2' hpl fr2) (T.obj _ _ st2);refine thn (hg C _ s2 _ H2' x u _ I2' r2 (hgo _ _ _ _ (step x H2' y2))) λ _ s3 ⟨σ3,H3,I3,own3,len3,q3⟩=>?_;refine thn (ht C _ s3 σ3 H3 _ I3 q3) λ ok s4 ⟨H4,I4,q4⟩=>?_;have weak:∀ {pl H5 s5},Inv (X.comp (own++fr) scope C s H fp) pl σ3 H5 s5->Inv (X.comp (own++fr) scope C s H fp) pl (kH own ix σ) H5 s5:=λ I5=>I5.weak len3.symm λ j v e=>by
    by_cases hj:own.length<=j
    ·rw[own3 j hj];exact e
    ·exfalso
     unfold kH at e;rw[bS (by simp;lia),aH]at e;cases q:own[j]? with
     | none=>rw[q]at e;cases e
     | some a=>rw[q]at e;cases e
   have again:∀ {H5:Hp} {s5:gM} {ys':List V} {its':Array gL} {n':Nat},Inv (X.comp (own++fr) scope C s H fp) ([(D,({cls:=.type "list",data:=.seq its na}:Obj))]++uI fp s2.heap) σ3 H5 s5->W (i+1) n' ys' H5->Vals ys' its'.toList->ys'.length<=sizeLine ->
     ∀ h',(∀ b o,b≠D->s5.heap.get? b=My o->h'.get? b=My o)->h'.PlainList D its'->∃ i ys its H',Inv (X.comp (own++fr) scope C s H fp) [] (kH own ix σ) H' {s5 with heap:=h'}/\h'.PlainList D its/\Vals ys its.toList/\H' D=U5/\tn i h'/\(∀ b∈fp,H' b=U5)/\ys.length<=sizeLine/\W i n' ys H':=by
    intro H5 s5 ys' its' n' I5 w5 rv5 hz5 h' k5 a5;have hD5:H5 D=U5:=(I5.pin (D,_) (aR _ (bc _ (bp.mpr rfl)))).2.1;have I6:Inv (X.comp (own++fr) scope C s H fp) [] (kH own ix σ) H5 s5:=(weak I5).wc λ p hp=>absurd hp (by simp);refine⟨i+1,ys',its',H5,I6.turned (t':=s5.toks) k5 hD5 hDC (.inr hDs) ncell (λ p hp=>absurd hp (by simp[Cx.comp])),a5,rv5,hD5,T.keep _ _ _ st2 λ b hb o e=>k5 b o (λ z=>nfp (z▸hb)) (I5.pin (b,o) (aR _ (aR _ (pf hb e)))).1,λ b hb=>?_,hz5,w5⟩;obtain⟨o,e,d⟩:=T.obj _ _ st2 b hb;exact(I5.pin (b,o) (aR _ (aR _ (pf hb e)))).2.1
   have pinD:∀ {H5:Hp} {s5:gM},Inv (X.comp (own++fr) scope C s H fp) ([(D,({cls:=.type "list",data:=.seq its na}:Obj))]++uI fp s2.heap) σ3 H5 s5->s5.heap.PlainList D its:=λ I5 =>⟨na,(I5.pin (D,_) (aR _ (bc _ (bp.mpr rfl)))).1⟩
   cases ok with
   | false =>rw[au ax]at q4;rw[au ax];obtain⟨m',hm',w4⟩:=q4;exact⟨m',hm',again I4 w4 rv hz s4.heap (λ _ _ _ e=>e) (pinD I4)⟩
   | true =>rw[ai rfl]at q4;rw[ai rfl];refine thn (he C _ s4 σ3 H4 _ I4 q4) λ y s5 ⟨v,H5,I5,r5,m',hm',w5⟩=>?_;have hl:=rv.length;refine wpAny_list_append_plain (hsz:=by simp at hl;lia) (pinD I5) λ h6 hl6 hs6=>?_;refine⟨m',hm',again I5 w5 (its':=its.push y) ?_ (by rw[aK,bG];lia) h6 (λ b o hb e=>hs6.extBut b o hb e) hl6⟩;rw[Array.toList_push];exact fY rv r5
 exact codeAny_compStart_list (loop _ rfl) (T.self _ 0 _ _ _ st0 (loop _ rfl))
theorem M3 (hc:X.calm=U6)(S:lY X scope own fr ix){wi:TI}(hi:PI X tg iter wi)(hg:∀ C s H fp,PG (X.comp (own++fr) scope C s H fp) tg g)(hgo:DS own.length g)
  (ht:∀ C s H fp,PF (X.comp (own++fr) scope C s H fp) ifs tc) (he:∀ C s H fp,PE (X.comp (own++fr) scope C s H fp) elt te) (hs:∀ x,foldedSetIterable iter X.env x=pure x:=by intro _;rfl) :
  PE X (.ListComp elt [⟨tg,iter,ifs,0⟩] scope pos) (tLC own ix wi g tc te):=by
 intro pins s σ H Q I h;rw[eval_ListComp];refine wpAny_comprehension_free (use:=U5) rfl hs (xr (S.cells I.ok)) S.kind S.loc (thn (hi pins s σ H _ I h) λ v s1 h1=>thn h1 λ itv s2 h2=>?_);obtain⟨it,fp,tn,J,H2,e,I2,T,st2,f2,W,⟨m0,w0⟩,turn⟩:=h2;subst e;refine Ca (Qe:=Q) (RR:=λ acc C=>compPost (model X.prog X.w) X.A X.xe U5 (EP X pins σ Q) acc C) I2 hc S T st2 f2 (λ C=>hg C _ _ _) hgo (λ C=>ht C _ _ _) (λ C=>he C _ _ _) w0 turn ?_;rintro D C s' H' J1 q hC hn ⟨m,hm⟩;refine⟨m,hm,λ h'' hs''=>⟨.ref D,H',?_,rfl,q⟩⟩;exact J1.turned (t':=s'.toks) (λ b o hb e=>hs''.extBut b o hb e) hn (bU (aG I2.lt hC)) (.inr (bD I2.sz hC)) (λ x c e z=>by
  obtain⟨v,q⟩:=I2.cell x c e;exact absurd q.lt (by rw[z];exact fU.mpr hC)) (λ p hp z=>by
  have:=av (I2.pin p hp).1;rw[z]at this;exact absurd this (fU.mpr hC))
theorem M4 {i:Nat}{x:Str}{px spos:Pos}(hN:X.N.Nodup)(hi':X.N[i]?=My x)(hx:Loc X.env.scope x)(hc:X.calm=U6)(S:lY X scope own fr ix){wi:TI}(hi:PI X tg iter wi)(hg:∀ C s H fp,PG (X.comp (own++fr) scope C s H fp) tg g)(hgo:DS own.length g)
  (ht:∀ C s H fp,PF (X.comp (own++fr) scope C s H fp) ifs tc) (he:∀ C s H fp,PE (X.comp (own++fr) scope C s H fp) elt te)
  (hsw:swapsWith (.ListComp elt [⟨tg,iter,ifs,0⟩] scope pos) (My (.Name x px)) spos.line X.env=pure U6:=by rfl) (hf:X.fn x=U6\/X.env.scope.names.lookup x=My .local:=by trivial)
  (hs:∀ x,foldedSetIterable iter X.env x=pure x:=by intro _;rfl) :
  PS X (.Assign [.Name x px] (.ListComp elt [⟨tg,iter,ifs,0⟩] scope pos) spos) (λ D σ H=>tLC own ix wi g tc te σ H λ v H'=>D.nx (σ.set i (My v)) H'):=by
 intro pins s σ H D I h;rw[exec_Assign_Name_used _ _ _ _ hsw];refine ae (f6 (ae ?_));show wpAny _ X.A (do let _<-comprehension (.ListComp elt [⟨tg,iter,ifs,0⟩] scope pos) scope X.env _ (newList []) U7 (eval iter X.env) (My (assign (.Name x px) X.env))) _ _ s;refine ae (dh (wpAny_comprehension_free (use:=My (assign (.Name x px) X.env)) (Q:=λ _ s'=>SP X pins D .next s') rfl hs (xr (S.cells I.ok)) S.kind S.loc
  (thn (hi pins s σ H _ I h) λ v s1 h1=>thn h1 λ itv s2 h2=>?_)) (λ _ s' hq=>af (af hq)) λ _ _ e=>e)
 obtain⟨it,fp,tn,J,H2,e,I2,T,st2,f2,W,⟨m0,w0⟩,turn⟩:=h2;subst e;refine Ca (Qe:=λ v H'=>D.nx (σ.set i (My v)) H') (RR:=λ acc C=>compPost (model X.prog X.w) X.A X.xe (My (assign (.Name x px) X.env)) (λ _ s'=>SP X pins D .next s') acc C) I2 hc S T st2 f2 (λ C=>hg C _ _ _) hgo (λ C=>ht C _ _ _) (λ C=>he C _ _ _) w0 turn ?_;rintro Dd C s' H' J1 q hC hn ⟨m,hm⟩;show wpAny _ X.A (assign (.Name x px) X.env (.ref Dd)) _ _ _;refine wpAny_assign_Name (zv (v:=.ref Dd) J1 hN hi' hx rfl (λ s'' J2 ⟨a,hsb,ha⟩=>?_) hf);have neC:a≠C:=by
  rcases ha with ha | ha
  ·rw[ha];exact aM (aG I2.lt hC)
  ·obtain⟨v,q⟩:=I2.cell x a ha;exact aM (aG q.lt hC)
 refine⟨m,hm.sameBut hsb neC.symm,λ h'' hs''=>⟨_,H',?_,q⟩⟩;exact J2.turned (t':=s''.toks) (λ b o hb e=>hs''.extBut b o hb e) hn (bU (aG I2.lt hC)) (.inr (bD I2.sz hC)) (λ x c e z=>by
  obtain⟨v,q⟩:=I2.cell x c e;exact absurd q.lt (by rw[z];exact fU.mpr hC)) (λ p hp z=>by
  have:=av (I2.pin p hp).1;rw[z]at this;exact absurd this (fU.mpr hC))
end
end L2
namespace Tb
open PySem PySem.W PySem.Spec PyProof.Rows
def pLt (a b:Int×Int):Bool:=decide (a.1<b.1) || (decide (a.1=b.1)&&decide (a.2<b.2))
theorem pj (a b:Int×Int):pLt a b=U6↔a.1<b.1\/(a.1=b.1/\a.2<b.2):=by simp[pLt]
theorem uS (a b:Int×Int):pLt a b=U7↔¬ (a.1<b.1\/(a.1=b.1/\a.2<b.2)):=by rw[<-pj];simp
def PO:KeyOrd where
 α:=Int×Int
 blt:=pLt
 irrefl:=λ a=>by rw[uS];lia
 trans:=λ a b c h1 h2=>by rw[pj]at *;lia
 negTrans:=λ a b c h=>by rw[pj]at *;rw[pj];lia
 total:=λ a b h1 h2=>by
  rw[uS]at h1 h2
  exact gz (by lia) (by lia)
section
variable {prog:Program}{w:World}{A:Around}{E:gH}{s:gM}{h₀:Heap}{L:Addr}{m:gG}{news:gO}
theorem HN {h:Heap}{x y:Int}{b:Addr}(k:lV prog w h [x,y] b):∃ o n t u,h.get? b=My o/\o.cls=.type "tuple"/\o.data=.seq #[.int x t,.int y u] n:=by
 obtain⟨o,its,n,e1,e2,e3,e4⟩:=k;generalize hits:its.toList=L at e4;cases e4 with
 | cons h1 e5=>cases e5 with
  | cons h2 e6 =>cases e6;obtain⟨t,q1⟩:=eZ h1;obtain⟨u,q2⟩:=eZ h2;refine⟨o,n,t,u,e1,e2,?_⟩;rw[e3,<-q1,<-q2];congr 1;apply Array.ext';rw[hits]
theorem vp {h:Heap}:∀ (vs:List gL),(∀ v∈vs,∃ b x y,v=.ref b/\lV prog w h [x,y] b)->∃ fs:List gL,KatTups h vs fs/\fs.length=vs.length/\∀ f∈fs,∃ i t,f=Value.int i t
 | [],_=>⟨[],trivial,rfl,λ f hf=>by cases hf⟩
 | v::r,hv=>by
  obtain⟨fs,q1,q2,q3⟩:=vp r λ u hu=>hv u (ay _ hu);obtain⟨b,x,y,rfl,tk⟩:=hv v aB;obtain⟨o,n,t,u,e1,e2,e3⟩:=HN tk;refine⟨.int x t::fs,KatTups.cons e1 e2 e3 rfl q1,by simp[q2],λ f hf=>?_⟩;rcases aD.mp hf with rfl | hf
  ·exact⟨x,t,rfl⟩
  ·exact q3 f hf
theorem HP {i j:Nat}{vs:List gL}{a b:Int×Int}{p q:Addr}{C:Bool->gM->Prop}(hi:vs[i]?=My (.ref p))(hj:vs[j]?=My (.ref q))(ki:lV prog w s.heap [a.1,a.2] p)(kj:lV prog w s.heap [b.1,b.2] q)(h:C (pLt a b) s) :
  kas_ask prog w A (tuples' U6) vs i j C s:=by
 unfold kas_ask;rw[aq,hi,aq,hj,eA,eA];obtain⟨o1,n1,t1,u1,e1,c1,d1⟩:=HN ki;obtain⟨o2,n2,t2,u2,e2,c2,d2⟩:=HN kj;refine kat_lt e1 d1 e2 d2 ?_;show KatLex prog w A U6 _ C [(Value.int a.1 t1,Value.int b.1 t2),(Value.int a.2 u1,Value.int b.2 u2)] 0 s;refine kat_cons (wpAny_eqBool_int ?_);by_cases h1:a.1=b.1
 ·rw[show(a.1==b.1)=U6 by simpa using h1]
  refine kat_yes (kat_cons (wpAny_eqBool_int ?_));by_cases h2:a.2=b.2
  ·rw[show(a.2==b.2)=U6 by simpa using h2]
   refine kat_yes (kat_nil ?_);have e:pLt a b=U7:=by rw[uS];lia
   rw[e]at h;exact h
  ·rw[show(a.2==b.2)=U7 by simpa using h2]
   refine kat_no ?_;show wpAny _ _ (oneLt' U7 (.int a.2 u1) (.int b.2 u2)) _ _ _;refine kat_one _ _ (lt_int ?_);have e:pLt a b=decide (a.2<b.2):=by simp[pLt,h1]
   rw[e]at h;exact h
 ·rw[show(a.1==b.1)=U7 by simpa using h1]
  refine kat_no ?_;show wpAny _ _ (oneLt' U6 (.int a.1 t1) (.int b.1 t2)) _ _ _;refine oneLt_int ?_;have e:pLt a b=decide (a.1<b.1):=by simp[pLt,h1]
  rw[e]at h;exact h
theorem sD {D:Addr}{vs:List gL}{X:Nat->Int×Int}{Q:gH}(F:Fr h₀ L s.heap m)(N:News h₀ L s.heap ((D,listOf vs.toArray 0)::news))(hD:∀ p∈news,p.1≠D)(h2:2<=vs.length)(h64:vs.length<64)
  (ht:∀ h',Fr h₀ L h' m->News h₀ L h' news->∀ (i:Nat) v,vs[i]?=My v->∃ b,v=.ref b/\lV prog w h' [(X i).1,(X i).2] b)
  (h:∀ (p:Array Nat) h' c,Pm vs.length p->Sor (O:=PO) X p vs.length->Fr h₀ L h' m->News h₀ L h' ((D,listOf (List.toArray (p.toList.map λ i=>vs.getD i Value.none)) c)::news)->Q .none {s with heap:=h'}) :
  wpAny (model prog w) A (call (.builtin "list.sort") [.ref D]) Q E s:=by
 refine kat_lsort F N (.head hD) (by simp) h2 h64 λ e1 h' F' N'=>?_;have N'':News h₀ L h' news:=λ p hp=>N' p (ay _ hp);have keys:=ht h' F' N'';have at_i:∀ i,i<vs.length->∃ b,vs[i]?=My (.ref b)/\lV prog w h' [(X i).1,(X i).2] b:=λ i hi=>by obtain⟨b,e,tk⟩:=keys i vs[i] (by simp[hi]);exact⟨b,by rw[<-e];simp[hi],tk⟩
 obtain⟨fs,q1,q2,q3⟩:=vp (prog:=prog) (w:=w) (h:=h') vs λ v hv=>by obtain⟨i,hi,ei⟩:=cf hv;obtain⟨b,e,tk⟩:=keys i v (by rw[<-ei];simp[hi]);exact⟨b,_,_,e,tk⟩
 refine kat_kind (s:={s with heap:=h'}) (T:=.type "int") q1 (by lia) (λ v hv=>?_) (by decide) ?_
 ·obtain⟨i,t,rfl⟩:=q3 v hv;exact Looks.of_pure rfl
 ·show(kas_sort vs.length).kasWp (kas_ask prog w A.in1 (tuples' U6) vs) _ _
  refine Tr.wp (n:=vs.length) (c:=cO (O:=PO) X) (R:=λ p=>Pm vs.length p/\Sor (O:=PO) X p vs.length) (λ i j C hi hj hc=>?_) (λ p hp=>?_) _ (Ou (by lia))
  ·obtain⟨b1,v1,k1⟩:=at_i i hi;obtain⟨b2,v2,k2⟩:=at_i j hj;exact HP v1 v2 k1 k2 hc
  ·exact KasFin.intro F' N' (.head hD) λ h2 c F2 N2=>h p h2 c hp.1 hp.2 F2 N2
theorem sE {D:Addr}{vs:List gL}{Q:gH}(ho:s.heap.get? D=My (seqObj "list" vs.toArray 0))(h2:vs.length<2)
  (h:∀ h' c,(∀ b o,b≠D->s.heap.get? b=My o->h'.get? b=My o)->h'.get? D=My (seqObj "list" vs.toArray c)->Q .none {s with heap:=h'}) :
  wpAny (model prog w) A (call (.builtin "list.sort") [.ref D]) Q E s:=by
 have hlt:D<s.heap.objs.size:=av ho;refine bY slot_list_sort ⟨_,ho,rfl⟩ entry_list_sort ?_ (args_list_sort _);rw[list_sort_plain];refine ae (listItems_at ho rfl ?_);refine ae (listUpdate_at ho rfl ?_ (by simp;rw[sizeLine_eq];lia) (by simp));obtain⟨e1,ho1⟩:∃ e1,(s.heap.update D (Obj.mapSeq λ _=>#[])).get? D=My (seqObj "list" #[] e1):=⟨_,get?_update_seq ho λ _=>#[]⟩;refine ae (seqEpoch_at ho1 rfl ?_);refine ae (wpAny_newTuple ?_ (by rw[sizeLine_eq];simp;lia));refine ae (f7 ?_ (by simp));refine bQ ?_;have ho6:(((s.heap.update D (Obj.mapSeq λ _=>#[])).push (seqObj "tuple" vs.toArray 0)).push (seqObj "list" #[] 0)).get? D=My (seqObj "list" #[] e1) :=
  ag _ (ag _ ho1)
 show wpAny (model prog w) _ _ _ _ {s with heap:=((s.heap.update D (Obj.mapSeq λ _=>#[])).push (seqObj "tuple" vs.toArray 0)).push (seqObj "list" #[] 0)};dsimp only;have hsz:vs.toArray.size<2:=by simpa using h2
 rw[ai hsz,ai hsz];refine ae (af ?_);rw[StateT.run_pure];refine ae (af ?_);dsimp only;refine ae (seqEpoch_at ho6 rfl ?_);have hout:(arrOf (SortSt.mk' general' (vs.toArray.zip vs.toArray) #[] 7 U5)).map (·.2)=vs.toArray:=by show(vs.toArray.zip vs.toArray).map (·.2)=vs.toArray;apply Array.ext';simp;exact List.map_snd_zip (aw _)
 rw[hout];refine ae (listUpdate_at ho6 rfl ?_ (by simp) (by simp;rw[sizeLine_eq];lia));simp only[bne_self_eq_false,aQ,cn];obtain⟨c,hc⟩:∃ c,((((s.heap.update D (Obj.mapSeq λ _=>#[])).push (seqObj "tuple" vs.toArray 0)).push (seqObj "list" #[] 0)).update D (Obj.mapSeq λ _=>vs.toArray)).get? D=My (seqObj "list" vs.toArray c):=⟨_,get?_update_seq ho6 λ _=>vs.toArray⟩;refine af ⟨_,rfl,h _ c (λ b o hb e=>?_) hc⟩;rw[Heap.get?_update_ne _ _ _ _ hb];refine ag _ (ag _ ?_);rw[Heap.get?_update_ne _ _ _ _ hb];exact e
theorem HQ {r:Addr}{Q:Bool->gM->Prop}(hT:s.TypeIs (.ref r) "set")(h:Q U7 s):wpAny (model prog w) A (Builtin.List.listLengthHint (.ref r)) Q E s:=by
 unfold Builtin.List.listLengthHint;refine ae (wpAny_specialOf hT PySem.F.slot_set_len.lookup ?_);generalize hid:("set.__len__":String)=id0
 wp_delta
 rw[show splitId id0=My ("set","__len__") from by subst hid;decide +kernel];subst hid;refine ae (wpAny_isInstance (T:="set") (b:=U6) hT (by rw[isSubtype_type];kernel_rfl) ?_);refine wpAny_ite_split (λ hab=>absurd hab (by decide)) (λ _=>?_);refine wpAny_ite_split (λ _=>?_) (λ hab=>absurd (by decide +kernel) hab);exact ae (fe hT (af h))
theorem HR {S:Addr}{oS:Obj}{es:Array (Int×gL)}{ep:Nat}{t:SetTable}{Q:gH}(hS:s.heap.get? S=My oS)(hx:oS.ExactSet)(hd:oS.data=.set es ep t)(T:TOk t (es.toList.map (·.1)))(hp:t.plain=U6)
  (hQ:Q (.ref s.heap.objs.size) {s with heap:=s.heap.push {cls:=.type "set_iterator",data:=.fields #[rawInt 0,rawInt 0,.ref S,rawInt es.size,rawInt ep]}}):wpAny (model prog w) A (pyIter (.ref S)) Q E s:=by
 have hT:s.TypeIs (.ref S) "set":=⟨oS,hS,hx.1⟩;have hfit:=fits_of T (n:=es.size) (by simp);refine wpAny_pyIter_slot hT F.slot_set_iter (bY F.slot_set_iter hT yR ?_ (F.args_set_iter_1 _));unfold Builtin.«frozenset.__iter__»;refine ae ?_;unfold Builtin.Frozenset.slot0;refine ae (af ?_);show wpAny _ _ (pure S) _ _ _;refine af ?_;refine ae ?_;unfold Builtin.Frozenset.sizeOf;refine ae (qG hS hd T (af ?_));refine ae ?_;unfold setDrawn;refine ae (cm hS hd hfit ?_);dsimp only;refine ae (AF ?_);refine af ?_;show wpAny _ _ (if (!w.params.followText "set-order"&&(!t.plain&&decide (es.size>1)))=U6 then _ else _) _ _ _;rw[hp];simp only[ef,gy,fQ,aQ,cn];refine ae (af ?_);refine ae (ae (cm hS hd hfit (af ?_)));refine ae (bw (af ⟨_,rfl,"set_iterator",_,⟨_,aF _ rfl,rfl⟩,kX.lookup,?_⟩));exact hQ
theorem E6 {S:Addr}{oS:Obj}{es:Array (Int×gL)}{ep:Nat}{t:SetTable}(hx:oS.ExactSet)(hd:oS.data=.set es ep t)(T:TOk t (es.toList.map (·.1)))(hp:t.plain=U6)(hl:t.led=!(w.params.followText "set-order")) :
  KdlSrc prog w "set" S S es.size (λ i v=>∃ hv,(seen w S ep es)[i]?=My (hv,v)) (λ h=>h.get? S=My oS) where
 type:=λ _ e=>⟨oS,e,hx.1⟩
 there:=λ _ e=>⟨av e,av e⟩
 keep:=λ _ _ e hk=>hk S (.inl rfl) oS e
 notList:=by decide
 notTuple:=by decide
 hint:=λ _ _ _ _ e hq=>HQ ⟨oS,e,hx.1⟩ hq
 iter:=λ A s hh e=>⟨_,_,(λ _ _ hq=>HR e hx hd T hp hq),HK hh (aM (av e)) hd T hp hl,⟨⟨_,0,aF _ rfl,rfl,rfl,λ _=>DP T.ri⟩,ag _ e⟩⟩
end
end Tb
namespace L2
open PySem PySem.W PySem.Spec PyProof.Rows Tb
section
variable {X:Cx}{pins:gO}{σ:St}{H:Hp}{s:gM}
theorem pz {prog:Program}{w:World}:∀ {k:List Int} {its:List gL},Vals (k.map V.int) its->ItemsAre (intKind prog w) k its
 | [],_,.nil=>.nil
 | i::r,_,.cons ⟨t,e⟩ q=>by subst e;exact .cons (intKind_is _ _ _ _) (pz q)
theorem E7 {prog:Program}{w:World}{H:Hp}{h:Heap}(ok:HOk prog w H h){k:List Int}{b:Addr}(e:H b=My (.tup (k.map V.int))):lV prog w h k b:=by obtain⟨_,its,r,o,e1,e2,n,e3⟩:=ok b _ e;exact⟨o,its.toArray,n,e1,e2,e3,by simpa using pz r⟩
def Gf (H:Hp)(vs:List V)(kk:List (List Int)):Prop:=Paired (λ v k=>∃ b,v=V.ref b/\H b=My (.tup (k.map V.int))) vs kk
def K4 (w:World)(H:Hp)(S:Addr)(ks:List (List Int)):Prop:=∃ oS es ep t,H S=My (.ext λ h=>h.get? S=My oS)/\oS.ExactSet/\oS.data=.set es ep t/\TOk t (es.toList.map (·.1))/\t.plain=U6/\t.led=!(w.params.followText "set-order")/\es.size<=76/\ks.Nodup /\
 Paired (λ k (e:Int×gL)=>∃ b,e.2=Value.ref b/\H b=My (.tup (k.map V.int))) ks es.toList
theorem oU {α β:Type}{F:α->β->Prop}:∀ {xs:List α} {ys:List β},Paired F xs ys->∀ (i:Nat) (x:α),xs[i]?=My x->∃ y,ys[i]?=My y/\F x y
 := by
  intro xs ys h;induction h with
  | nil=>intro i x h;simp at h
  | cons h t ih =>
    intro i x e;cases i with
    | zero =>rw[bE]at e;cases e;exact⟨_,rfl,h⟩
    | succ i =>rw[aS]at e;obtain⟨y,q1,q2⟩:=ih i x e;exact⟨y,by rw[aS];exact q1,q2⟩
theorem HS (hc:X.calm=U6)(hu:X.A.units+64<cLine):jy X (.type "set") (λ xs H Q=>∃ l vs kk,xs=[V.ref l]/\SqL X.K H l vs/\Gf H vs kk/\vs.length<=40 /\
  ∀ S o ks,H S=U5->K4 X.w (upd H S o) S ks->(∀ k,k∈ks↔k∈kk)->Q (.ref S) (upd H S o)):=by
 intro pins s σ H xs us Q I r h;obtain⟨l,vs,kk,rfl,hl,ht,hz,q⟩:=h;obtain⟨u,rfl,ru⟩:=vals1 r;cases ru;obtain⟨its,rv,p,_⟩:=I.list hl;have hlen:vs.length=its.length:=rv.length;have hkl:vs.length=kk.length:=ht.length;refine B5 (G:=λ k b=>H b=My (.tup (k.map V.int))) (I.ok.hd hc) (bN (show X.A.units+40<=X.A.units+64 by lia) hu) p.isList (kk:=kk) (by simp;lia) (by simp;lia) (λ j v hj=>?_) λ h' tk ks kp S' m'=>?_
 ·have hj:its[j]?=My v:=by simpa using hj
  have hjl:j<vs.length:=by have:=(aN.mp hj).1;lia
  obtain⟨k,hk1,b,hb,hb2⟩:=oU ht j vs[j] (by simp[hjl]);obtain⟨u,hu1,hu2⟩:=rv.get (x:=vs[j]) (i:=j) (by simp[hjl]);rw[hj]at hu1;cases hu1;rw[hb]at hu2;cases hu2;exact⟨k,b,hk1,rfl,E7 I.hok hb2,hb2⟩
 ·obtain⟨oS,es,ep,t,ho,hx,hd,T,En,hp,hl',hr,nd⟩:=S';have keep:∀ b u,s.heap.get? b=My u->h'.get? b=My u:=λ b u e=>kp b u (av e) e;have hn:=I.hok.fresh (aw s.heap.objs.size);have I':Inv X pins σ (upd H s.heap.objs.size (.ext λ h=>h.get? s.heap.objs.size=My oS)) {s with heap:=h',toks:=tk}:=I.laid keep (aw _) ⟨ho,⟨_,ho⟩,λ h1 h2 a b=>b _ a⟩;refine⟨.ref s.heap.objs.size,_,I',rfl,q _ _ ks hn ⟨oS,es,ep,t,gZ,hx,hd,T,hp,hl',?_,nd,nK (λ k e ⟨b,e1,_,e2⟩=>⟨b,by rw[e1],by rw[hU (iP e2 hn)];exact e2⟩) En⟩ m'⟩;rcases hr with⟨_,z⟩ | ⟨_,z⟩ | ⟨_,z⟩<;>lia
theorem Inv.rB {h':Heap}{tk:Nat}{m:gG}(I:Inv X pins σ H s)(hm:s.heap.Ns X.env.locals m)(F:Fr (Att.jr s.heap) X.env.locals h' m)(N:News (Att.jr s.heap) X.env.locals h' (lH (Att.jr s.heap) s.heap X.env.locals)) :
  Inv X pins σ H {s with heap:=h',toks:=tk}:=by
 have no:∀ b,(Att.jr s.heap).get? b=U5:=λ b=>cE (aT _);have keep:∀ b o,b≠X.env.locals->s.heap.get? b=My o->h'.get? b=My o:=λ b o hb e=>(N (b,o) (BK hb (no b) e)).1;refine I.step (g':=s.gens) (d':=s.drawn) (ch:=[]) (λ _ z=>nomatch z) (λ b o hb _ _ e _=>keep b o hb e) (λ b o hb _ _ e _=>⟨o.slots,keep b o hb e⟩) (λ _ _ _ _ n=>n) (λ b o _ e=>?_) (λ _ _ e=>e) (λ _ _ _ e=>e) (λ b ps e=>⟨#[],by rw[e];simp⟩) (λ m' hm'=>?_) (λ b u e=>?_) I.bare
 ·by_cases hb:b=X.env.locals
  ·obtain⟨o',_,_,ho',_⟩:=F.ns;exact⟨o',by rw[hb];exact ho'⟩
  ·exact⟨o,keep b o hb e⟩
 ·have:m'=m:=by
   obtain⟨o1,es1,ep1,a1,a2,_,a4⟩:=hm;obtain⟨o2,es2,ep2,b1,b2,_,b4⟩:=hm';rw[a1]at b1;cases b1;rw[a2]at b2;cases b2;funext x;rw[<-a4 x,<-b4 x]
  rw[this];exact F.ns
 ·refine(I.hok b u e).wM (λ c v hc q=>keep c v ?_ q) (λ _ q=>q) λ _ _ q=>q
  rcases hc with z | z
  ·intro hL;have hf:=I.free;rw[<-hL,z,e]at hf;cases hf
  ·intro hL;have hf:=I.free;rw[<-hL,z]at hf;cases hf
theorem xt {P:Program}{w:World}{H:Hp}{h:Heap}{a:Addr}{o:HO}(x:jH P w H h a o):∃ ob,h.get? a=My ob:=by
 cases o with
 | lst xs=>obtain⟨_,_,_,_,e⟩:=x;exact⟨_,e⟩
 | tup xs=>obtain⟨_,_,_,ob,e,_⟩:=x;exact⟨ob,e⟩
 | dK kvs=>obtain⟨_,_,_,_,ob,_,_,e,_⟩:=x;exact⟨ob,e⟩
 | dT kvs=>obtain⟨_,_,_,_,ob,_,_,e,_⟩:=x;exact⟨ob,e⟩
 | set S n=>obtain⟨ob,_,_,_,e,_⟩:=x;exact⟨ob,e⟩
 | ins C dx fs=>obtain⟨_,_,_,e,_⟩:=x;exact⟨_,e⟩
 | own y=>obtain⟨ob,e⟩:=x;exact⟨ob,e⟩
 | xd fs=>obtain⟨_,⟨ob,_,_,e,_⟩,_⟩:=x;exact⟨ob,e⟩
 | rng lo hi=>obtain⟨_,_,_,e⟩:=x;exact⟨_,e⟩
 | frz ob u=>obtain⟨e,_⟩:=x;exact⟨_,e⟩
 | tbl ps=>exact⟨_,x⟩
 | met f y=>exact⟨_,x⟩
 | ext φ=>obtain⟨_,⟨ob,e⟩,_⟩:=x;exact⟨ob,e⟩
theorem vq {α β:Type}{F:α->β->Prop}{ys ys':List β}(p:ys.Perm ys'):∀ {xs:List α},Paired F xs ys->∃ xs',xs.Perm xs'/\Paired F xs' ys':=by
 induction p with
 | nil=>intro xs h;exact⟨xs,.refl _,h⟩
 | cons y _ ih =>
  intro xs h;cases h with
  | cons h t =>obtain⟨xs',q1,q2⟩:=ih t;exact⟨_,q1.cons _,.cons h q2⟩
 | swap y z l =>
  intro xs h;cases h with
  | cons h1 t =>
   cases t with
   | cons h2 t=>exact⟨_,List.Perm.swap _ _ _,.cons h2 (.cons h1 t)⟩
 | trans _ _ ih1 ih2 =>intro xs h;obtain⟨x1,q1,q2⟩:=ih1 h;obtain⟨x2,q3,q4⟩:=ih2 q2;exact⟨x2,q1.trans q3,q4⟩
theorem pA {α β γ:Type}{F:β->γ->Prop}(f:α->β):∀ {xs:List α} {ys:List γ},Paired F (xs.map f) ys->Paired (λ a y=>F (f a) y) xs ys
 | [],_,.nil=>.nil
 | _::_,_,.cons h t=>.cons h (pA f t)
theorem lO {α β γ:Type}{F:β->γ->Prop}{f:α->β}{g:α->γ}:∀ (l:List α),(∀ a∈l,F (f a) (g a))->Paired F (l.map f) (l.map g)
 | [],_=>.nil
 | a::r,h=>.cons (h a aB) (lO r λ b hb=>h b (ay _ hb))
theorem kq {α:Type}(l:List α)(d:α):(U8 l.length).map (λ i=>l.getD i d)=l:=by
 apply List.ext_getElem?;intro i;rw[aH];by_cases h:i<l.length
 ·rw[cL h];simp[h]
 ·rw[cA (by simpa using h),cA (by lia)];rfl
theorem xu (hc:X.calm=U6):jy X (.builtin "sorted") (λ xs H Q=>∃ S kk,xs=[V.ref S]/\K4 X.w H S (kk.map λ(k:Int×Int)=>[k.1,k.2])/\kk.length<64 /\
  ∀ p ws (ss:List (Int×Int)),H p=U5->Gf H ws (ss.map λ k=>[k.1,k.2])->ss.Pairwise (λ a b=>pLt a b=U6)->ss.Perm kk->Q (.ref p) (upd H p (.lst ws))):=by
 intro pins s σ H xs us Q I r h;obtain⟨S,kk,rfl,hS,h64,q⟩:=h;obtain⟨u,rfl,ru⟩:=vals1 r;cases ru;obtain⟨oS,es,ep,t,e1,hx,hd,T,hp,hl,hz,nd,pr⟩:=hS;have hok:=I.hok S _ e1;have hS:s.heap.get? S=My oS:=hok.1;obtain⟨m,hm,_⟩:=id I.loc;have no:∀ b,(Att.jr s.heap).get? b=U5:=λ b=>cE (aT _);have hkl:kk.length=es.size:=by have:=pr.length;simpa using this
 have ndk:kk.Nodup:=by rw[aJ]at nd ⊢;rw[bq]at nd;exact nd.imp λ h e=>h (by rw[e])
 obtain⟨k3,pk,pr3⟩:=vq (rA X.w S ep es).symm (pA _ pr);have hk3:k3.length=es.size:=by rw[<-pk.length_eq,hkl]
 refine eJ kind_sorted plain_sorted entry_sorted (args_sorted1 _) ?_;unfold Builtin.«sorted»;refine ae (m:=checkCount "sorted" 1 1 _) (af (ae (kdu_collect (A:=X.A.in1) (E6 hx hd T hp hl) (I.ok.hd hc) hS (by rw[sizeLine_eq];lia) λ h1 tk acc hk hacc=>?_)));have hal:acc.toList.length=es.size:=by rw[bA];exact hacc.1
 have hav:∀ (j:Nat) (v:gL),acc.toList[j]?=My v->∃ hv,(seen X.w S ep es)[j]?=My (hv,v):=λ j v e=>hacc.2 j v (by rw[<-bh];exact e);generalize acc.toList=vs at hal hav;refine ae (f7 ?_ (by rw[sizeLine_eq];lia));have hL:X.env.locals<h1.objs.size:=by obtain⟨oL,_,_,ho,_⟩:=hm;exact av (hk _ _ ho)
 have at_j:∀ j,j<es.size->∃ b,vs[j]?=My (.ref b)/\H b=My (.tup [.int (k3.getD j (0,0)).1,.int (k3.getD j (0,0)).2]):=λ j hj=>by
  obtain⟨hv,e2⟩:=hav j vs[j] (by simp[hal,hj]);have hj3:k3[j]?=My (k3.getD j (0,0)):=by rw[aq];simp[hk3,hj]
  obtain⟨y,y1,b,y2,y3⟩:=oU pr3 j _ hj3;rw[bh,e2]at y1;cases y1;exact⟨b,by rw[<-y2];simp[hal,hj],y3⟩
 have keep1:∀ b o,s.heap.get? b=My o->(h1.push {cls:=.type "list",data:=.seq vs.toArray}).get? b=My o:=λ b o e=>ag _ (hk b o e);have F1:Fr (Att.jr s.heap) X.env.locals (h1.push {cls:=.type "list",data:=.seq vs.toArray}) m:=⟨hm.at' λ o e=>keep1 _ o e,(λ b o e=>by rw[no]at e;cases e),aT _⟩;have N1:News (Att.jr s.heap) X.env.locals (h1.push {cls:=.type "list",data:=.seq vs.toArray}) (lH (Att.jr s.heap) s.heap X.env.locals):=λ p hp=>let ⟨a,_,c⟩:=ko hp;⟨keep1 _ _ c,a,no _⟩;have hD:(h1.push {cls:=.type "list",data:=.seq vs.toArray}).get? h1.objs.size=My (listOf vs.toArray 0):=aF _ rfl;have hneD:∀ p∈lH (Att.jr s.heap) s.heap X.env.locals,p.1≠h1.objs.size:=λ p hp=>let ⟨_,_,c⟩:=ko hp;aM (av (hk _ _ c));have fin:∀ (l:List Nat) h2 c tk2,l.Perm (U8 es.size)->(l.map λ i=>k3.getD i (0,0)).Pairwise (λ a b=>pLt b a=U7)->Fr (Att.jr s.heap) X.env.locals h2 m->News (Att.jr s.heap) X.env.locals h2 ((h1.objs.size,listOf (List.toArray (l.map λ i=>vs.getD i Value.none)) c)::lH (Att.jr s.heap) s.heap X.env.locals) ->
   EP X pins σ Q (.ref h1.objs.size) {s with heap:=h2,toks:=tk2}:=λ l h2 c tk2 hlp hso F2 N2=>by
  have I2:Inv X pins σ H {s with heap:=h2,toks:=tk2}:=I.rB hm F2 λ p hp=>N2 p (ay _ hp);have hn:H h1.objs.size=U5:=by
   cases e:H h1.objs.size with
   | none=>rfl
   | some o =>obtain⟨o',ho'⟩:=xt (I.hok _ _ e);exact absurd (av (hk _ _ ho')) (aV _)
  have hlt:∀ i∈l,i<es.size:=λ i hi=>aC.mp (hlp.mem_iff.mp hi);let bo:Nat->Addr:=λ i=>match vs[i]? with | some (.ref b)=>b | _=>0
  have hbo:∀ i,i<es.size->vs.getD i Value.none=.ref (bo i)/\H (bo i)=My (.tup [.int (k3.getD i (0,0)).1,.int (k3.getD i (0,0)).2]):=λ i hi=>by
   obtain⟨b,b1,b2⟩:=at_j i hi;have:bo i=b:=by show(match vs[i]? with | some (.ref b)=>b | _=>0)=b;rw[b1]
   rw[this,aq,b1];exact⟨rfl,b2⟩
  have new:jH X.prog X.w (upd H h1.objs.size (.lst (l.map λ i=>V.ref (bo i)))) h2 h1.objs.size (.lst (l.map λ i=>V.ref (bo i))) :=
   ⟨by rw[ah,hlp.length_eq,cJ,sizeLine_eq];lia,l.map λ i=>vs.getD i Value.none,c,lO l λ i hi=>(hbo i (hlt i hi)).1,(N2 _ aB).1⟩
  have I3:Inv X pins σ (upd H h1.objs.size (.lst (l.map λ i=>V.ref (bo i)))) {s with heap:=h2,toks:=tk2}:=I2.B_ hn (bD I.ok.above (d9 hL)) (bU hL) (λ x c e z=>by
    obtain⟨v,o,ho,_⟩:=I.cell x c e;exact absurd (av (hk _ _ ho)) (by rw[z];exact aV _)) (λ p hp z=>by
    exact absurd (av (hk _ _ (I.pin p hp).1)) (by rw[z];exact aV _)) new
  have perm2:(l.map λ i=>k3.getD i (0,0)).Perm kk:=by have:=hlp.map λ i=>k3.getD i (0,0);rw[<-hk3,kq]at this;exact this.trans pk.symm
  have ndl:(l.map λ i=>k3.getD i (0,0)).Nodup:=perm2.nodup_iff.mpr ndk;refine⟨.ref h1.objs.size,_,I3,rfl,q _ _ (l.map λ i=>k3.getD i (0,0)) hn ?_ ?_ perm2⟩
  ·rw[aU];exact lO l λ i hi=>⟨bo i,rfl,(hbo i (hlt i hi)).2⟩
  ·rw[aJ]at ndl
   refine(hso.and ndl).imp λ{a b} ⟨h1,h2⟩=>?_;cases e:pLt a b with
   | true=>rfl
   | false=>exact absurd (Tb.PO.total a b e h1) h2
 refine ae (bQ ?_);by_cases h2:2<=vs.length
 ·refine sD (X:=λ i=>k3.getD i (0,0)) F1 (λ p hp=>?_) hneD h2 (by lia) (λ h' F' N' i v hv=>?_) λ p h' c P So F2 N2=>af ⟨_,rfl,?_⟩
  ·rcases aD.mp hp with rfl | hp
   ·exact⟨hD,bU hL,no _⟩
   ·exact N1 p hp
  ·have hi:i<es.size:=by
    have:=(aN.mp hv).1;lia
   obtain⟨b,b1,b2⟩:=at_j i hi;rw[hv]at b1;cases b1;refine⟨b,rfl,?_⟩;have I2:Inv X pins σ H {s with heap:=h',toks:=s.toks}:=I.rB hm F' N';exact E7 I2.hok (k:=[_,_]) b2
  ·rw[hal]at P So
   refine fin p.toList h' c _ P.2 ?_ F2 N2;rw[bq,b_];intro i j hi hj hij;have hjs:j<es.size:=by have:=P.size;simp at hj;lia
   have:=So i j (by lia) hjs;unfold KeyOrd.kle Kp at this;have gi:p.getD i 0=p.toList[i]:=by simp[Array.getD,show i<p.size by simpa using hi]
   have gj:p.getD j 0=p.toList[j]:=by simp[Array.getD,show j<p.size by simpa using hj]
   rw[gi,gj]at this;exact this
 ·refine sE hD (by lia) λ h' c kp hc'=>af ⟨_,rfl,?_⟩
  refine fin (U8 es.size) h' c _ (.refl _) ?_ ⟨F1.ns.at' λ o e=>kp _ o (aM hL) e,(λ b o e=>by rw[no]at e;cases e),aT _⟩ λ p hp=>?_
  ·have:((U8 es.size).map λ i=>k3.getD i (0,0)).length<2:=by simp;lia
   match (U8 es.size).map (λ i=>k3.getD i (0,0)),this with
   | [],_=>exact .nil
   | [a],_=>exact dY _ _
  ·rcases aD.mp hp with rfl | hp
   ·refine⟨?_,bU hL,no _⟩;rw[<-hal,kq];exact hc'
   ·exact⟨kp _ _ (hneD p hp) (N1 p hp).1,(N1 p hp).2⟩
end
end L2
namespace L2
open PySem PySem.Spec PyProof.Rows
inductive Dt where
 | non | bl (b:Bool) | int (i:Int) | str (x:Str) | ty (n:String) | opq (v:V) | dct (kvs:List (Int×Int)) | tup (ds:List Dt) | lst (ds:List Dt)
def kvD (kvs:List (Int×Int)):List (Key×V):=kvs.map λ p=>(Sum.inl p.1,V.int p.2)
mutual
inductive Is (K:gK) (H:Hp):V->Dt->Prop
 | non:Is K H .non .non
 | bl (b:Bool):Is K H (.bl b) (.bl b)
 | int (i:Int):Is K H (.int i) (.int i)
 | str (x:Str):Is K H (.str x) (.str x)
 | ty (n:String):Is K H (.ty n) (.ty n)
 | opq (v:V):Is K H v (.opq v)
 | dct {a:Addr} {kvs:List (Int×Int)}:Rd H a (.dK (kvD kvs))->Is K H (.ref a) (.dct kvs)
 | tup {a:Addr} {xs:List V} {ds:List Dt}:SqT K H a xs->Iss K H xs ds->Is K H (.ref a) (.tup ds)
 | lst {a:Addr} {xs:List V} {ds:List Dt}:H a=My (.lst xs)->Iss K H xs ds->Is K H (.ref a) (.lst ds)
inductive Iss (K:gK) (H:Hp):List V->List Dt->Prop
 | nil:Iss K H [] []
 | cons {x:V} {xs:List V} {d:Dt} {ds:List Dt}:Is K H x d->Iss K H xs ds->Iss K H (x::xs) (d::ds)
end
section
variable {K:gK}{H H':Hp}
theorem Is.mono (ht:∀ a xs,SqT K H a xs->SqT K H' a xs)(hl:∀ a xs,H a=My (.lst xs)->H' a=My (.lst xs))(hd:∀ a u,Rd H a u->Rd H' a u){v:V}{d:Dt}(h:Is K H v d):Is K H' v d :=
 Is.rec (motive_1:=λ v d _=>Is K H' v d) (motive_2:=λ v d _=>Iss K H' v d) .non .bl .int .str .ty .opq (λ h=>.dct (hd _ _ h)) (λ h _ i=>.tup (ht _ _ h) i) (λ h _ i=>.lst (hl _ _ h) i) .nil (λ _ _ i j=>.cons i j) h
theorem Iss.mono (ht:∀ a xs,SqT K H a xs->SqT K H' a xs)(hl:∀ a xs,H a=My (.lst xs)->H' a=My (.lst xs))(hd:∀ a u,Rd H a u->Rd H' a u){v:List V}{d:List Dt}(h:Iss K H v d):Iss K H' v d :=
 Iss.rec (motive_1:=λ v d _=>Is K H' v d) (motive_2:=λ v d _=>Iss K H' v d) .non .bl .int .str .ty .opq (λ h=>.dct (hd _ _ h)) (λ h _ i=>.tup (ht _ _ h) i) (λ h _ i=>.lst (hl _ _ h) i) .nil (λ _ _ i j=>.cons i j) h
theorem g6.uT {a:Addr}{xs:List V}(e:g6 H H')(h:SqT K H a xs):SqT K H' a xs:=by
 rcases h with (h | ⟨o,h⟩) | h
 ·exact .inl (.inl (e _ _ h))
 ·exact .inl (.inr ⟨o,e _ _ h⟩)
 ·exact .inr h
theorem g6.rd {a:Addr}{u:HO}(e:g6 H H')(h:Rd H a u):Rd H' a u:=h.elim (λ h=>.inl (e _ _ h)) λ⟨o,h⟩=>.inr ⟨o,e _ _ h⟩
theorem Is.ext (e:g6 H H'){v:V}{d:Dt}(h:Is K H v d):Is K H' v d:=h.mono (λ _ _=>e.uT) (λ _ _ h=>e _ _ h) (λ _ _=>e.rd)
theorem Iss.ext (e:g6 H H'){v:List V}{d:List Dt}(h:Iss K H v d):Iss K H' v d:=h.mono (λ _ _=>e.uT) (λ _ _ h=>e _ _ h) (λ _ _=>e.rd)
theorem g6.upd {p:Addr}{o:HO}(h:H p=U5):g6 H (upd H p o):=λ b u e=>by rw[hU (iP e h)];exact e
structure kA (H H':Hp):Prop where
 qq:∀ b xs,H b=My (.tup xs)->H' b=My (.tup xs)
 qr:∀ b o u,H b=My (.frz o u)->H' b=My (.frz o u)
theorem kA.refl:kA H H:=⟨λ _ _ h=>h,λ _ _ _ h=>h⟩
theorem kA.trans {H1 H2:Hp}(a:kA H H1)(b:kA H1 H2):kA H H2:=⟨λ c xs h=>b.qq c xs (a.qq c xs h),λ c o u h=>b.qr c o u (a.qr c o u h)⟩
theorem g6.text (e:g6 H H'):kA H H':=⟨λ b xs h=>e b _ h,λ b o u h=>e b _ h⟩
theorem kA.upd {p:Addr}{o:HO}(mu:Mut (H p)):kA H (upd H p o):=⟨λ b xs e=>by
  rw[hU (λ z=>by subst z;rw[e]at mu;exact mu)];exact e,λ b o u e=>by
  rw[hU (λ z=>by subst z;rw[e]at mu;exact mu)];exact e⟩
theorem kA.uT {a:Addr}{xs:List V}(e:kA H H')(h:SqT K H a xs):SqT K H' a xs:=by
 rcases h with (h | ⟨o,h⟩) | h
 ·exact .inl (.inl (e.qq _ _ h))
 ·exact .inl (.inr ⟨o,e.qr _ _ _ h⟩)
 ·exact .inr h
mutual
inductive Imm:Dt->Prop
 | non:Imm .non
 | bl (b:Bool):Imm (.bl b)
 | int (i:Int):Imm (.int i)
 | str (x:Str):Imm (.str x)
 | ty (n:String):Imm (.ty n)
 | opq (v:V):Imm (.opq v)
 | tup {ds:List Dt}:qJ ds->Imm (.tup ds)
inductive qJ:List Dt->Prop
 | nil:qJ []
 | cons {d:Dt} {ds:List Dt}:Imm d->qJ ds->qJ (d::ds)
end
theorem Imm.iI {ds:List Dt}(h:Imm (.tup ds)):qJ ds:=by cases h;assumption
theorem Imm.lst_inv {ds:List Dt}(h:Imm (.lst ds)):False:=by cases h
theorem Imm.rC {ds:List (Int×Int)}(h:Imm (.dct ds)):False:=by cases h
theorem qJ.inv {d:Dt}{ds:List Dt}(h:qJ (d::ds)):Imm d/\qJ ds:=by cases h;exact⟨by assumption,by assumption⟩
theorem Is.text (e:kA H H'){v:V}{d:Dt}(h:Is K H v d):Imm d->Is K H' v d :=
 Is.rec (motive_1:=λ v d _=>Imm d->Is K H' v d) (motive_2:=λ v d _=>qJ d->Iss K H' v d) (λ _=>.non) (λ b _=>.bl b) (λ b _=>.int b) (λ b _=>.str b) (λ b _=>.ty b) (λ b _=>.opq b) (λ _ m=>m.rC.elim) (λ h _ i m=>.tup (e.uT h) (i m.iI)) (λ _ _ _ m=>m.lst_inv.elim) (λ _=>.nil) (λ _ _ i j m=>.cons (i m.inv.1) (j m.inv.2)) h
theorem Iss.text (e:kA H H'){v:List V}{d:List Dt}(h:Iss K H v d):qJ d->Iss K H' v d :=
 Iss.rec (motive_1:=λ v d _=>Imm d->Is K H' v d) (motive_2:=λ v d _=>qJ d->Iss K H' v d) (λ _=>.non) (λ b _=>.bl b) (λ b _=>.int b) (λ b _=>.str b) (λ b _=>.ty b) (λ b _=>.opq b) (λ _ m=>m.rC.elim) (λ h _ i m=>.tup (e.uT h) (i m.iI)) (λ _ _ _ m=>m.lst_inv.elim) (λ _=>.nil) (λ _ _ i j m=>.cons (i m.inv.1) (j m.inv.2)) h
theorem qJ.of {ds:List Dt}(h:∀ d∈ds,Imm d):qJ ds:=by
 induction ds with
 | nil=>exact .nil
 | cons d r ih=>exact .cons (h d aB) (ih λ x hx=>h x (ay _ hx))
theorem Iss.length {vs:List V}{ds:List Dt}(h:Iss K H vs ds):vs.length=ds.length:=by
 induction ds generalizing vs with
 | nil=>cases h;rfl
 | cons d r ih=>cases h with | cons h1 h2=>simp[ih h2]
theorem Iss.get {vs:List V}{ds:List Dt}(h:Iss K H vs ds){i:Nat}{d:Dt}(e:ds[i]?=My d):∃ v,vs[i]?=My v/\Is K H v d:=by
 induction ds generalizing vs i with
 | nil=>simp at e
 | cons c r ih =>
  cases h with
  | cons h1 h2 =>
   cases i with
   | zero=>simp at e;subst e;exact⟨_,rfl,h1⟩
   | succ i=>obtain⟨v,a,b⟩:=ih h2 (i:=i) (by simpa using e);exact⟨v,by simpa using a,b⟩
theorem Iss.append {vs ws:List V}{ds es:List Dt}(h:Iss K H vs ds)(h':Iss K H ws es):Iss K H (vs++ws) (ds++es):=by
 induction ds generalizing vs with
 | nil=>cases h;exact h'
 | cons d r ih=>cases h with | cons h1 h2=>exact .cons h1 (ih h2)
theorem Iss.snoc {vs:List V}{ds:List Dt}{v:V}{d:Dt}(h:Iss K H vs ds)(h':Is K H v d):Iss K H (vs++[v]) (ds++[d]):=h.append (.cons h' .nil)
theorem Iss.ints {vs:List V}:∀ {ns:List Int},Iss K H vs (ns.map .int)->vs=ns.map V.int:=by
 intro ns h;induction ns generalizing vs with
 | nil=>cases h;rfl
 | cons d r ih=>cases h with | cons h1 h2=>cases h1;rw[ih h2];rfl
theorem Iss.E8 (ns:List Int):Iss K H (ns.map V.int) (ns.map .int):=by
 induction ns with
 | nil=>exact .nil
 | cons d r ih=>exact .cons (.int d) ih
end
abbrev DE:=List (gJ Dt)
structure Sat (K:gK)(H:Hp)(σ:St)(δ:DE):Prop where
 len:σ.length=δ.length
 at_:∀ (i:Nat) (d:Dt),δ[i]?=My (My d)->∃ v,σ[i]?=My (My v)/\Is K H v d
section
variable {K:gK}{H H':Hp}{σ:St}{δ:DE}
theorem Sat.ext (e:g6 H H')(h:Sat K H σ δ):Sat K H' σ δ:=⟨h.len,λ i d q=>let ⟨v,a,b⟩:=h.at_ i d q;⟨v,a,b.ext e⟩⟩
theorem Sat.set {i:Nat}{v:V}{d:Dt}(h:Sat K H σ δ)(q:Is K H v d):Sat K H (σ.set i (My v)) (δ.set i (My d)):=by
 refine⟨by simp[h.len],λ j e hj=>?_⟩;by_cases hij:i=j
 ·subst hij
  by_cases hi:i<δ.length
  ·rw[cv hi]at hj;cases hj;exact⟨v,by rw[cv (by rw[h.len];exact hi)],q⟩
  ·rw[cA (by simp;lia)]at hj;cases hj
 ·rw[bZ hij]at hj;rw[bZ hij];exact h.at_ j e hj
theorem Sat.comp {own:List Str}{ix:List Nat}(h:Sat K H σ δ):Sat K H (kH own ix σ) (own.map (λ _=>U5)++ix.map λ i=>(δ[i]?).getD U5):=by
 refine⟨by simp[kH],λ j e hj=>?_⟩;have hl:own.length<=j:=by
  refine fx λ hlt=>?_;rw[bS (by simpa using hlt),aH]at hj;cases q:own[j]? with
  | none=>rw[q]at hj;cases hj
  | some a=>rw[q]at hj;cases hj
 unfold kH;rw[bM (by simpa using hl),aH,ah]at hj ⊢;cases q:ix[j-own.length]? with
 | none=>rw[q]at hj;cases hj
 | some i =>
  rw[q]at hj;have hj:(δ[i]?).getD U5=My e:=ao hj;have:δ[i]?=My (My e):=by
   cases r:δ[i]? with
   | none=>rw[r]at hj;cases hj
   | some w=>rw[r]at hj;exact cN My hj
  obtain⟨v,a,b⟩:=h.at_ i e this;exact⟨v,by rw[cq,a];rfl,b⟩
theorem Iss.start {N:List Str}{vs:List V}{ds:List Dt}(h:Iss K H vs ds):Sat K H (start N vs) (ds.map My++U9 (N.length-ds.length) U5):=by
 refine⟨by simp[L2.start,h.length],λ j e hj=>?_⟩;unfold L2.start;by_cases hlt:j<ds.length
 ·rw[bS (by simpa using hlt),aH]at hj
  obtain⟨v,a,b⟩:=h.get (i:=j) (d:=e) (by
   cases q:ds[j]? with
   | none=>rw[q]at hj;cases hj
   | some w=>rw[q]at hj;cases hj;rfl)
  exact⟨v,by rw[bS (by rw[ah,h.length];exact hlt),aH,a];rfl,b⟩
 ·rw[bM (by simpa using fx hlt),List.getElem?_replicate]at hj;split at hj<;>cases hj
end
def tD (K:gK)(g:DE->gJ Dt):TE:=λ σ H Q=>∃ δ d,Sat K H σ δ/\g δ=My d/\∀ v H',g6 H H'->Is K H' v d->Q v H'
def tDT (K:gK)(g:DE->gJ Bool):TT:=λ σ H Q=>∃ δ b,Sat K H σ δ/\g δ=My b/\∀ H',g6 H H'->Q b H'
def tDs (K:gK)(g:DE->gJ (List Dt)):TA:=λ σ H Q=>∃ δ ds,Sat K H σ δ/\g δ=My ds/\∀ vs H',g6 H H'->Iss K H' vs ds->Q vs H'
def rD (K:gK)(f:Dt->Dt->gJ Dt):R2:=λ x y H Q=>∃ dx dy d,Is K H x dx/\Is K H y dy/\f dx dy=My d/\∀ v H',g6 H H'->Is K H' v d->Q v H'
def cD (K:gK)(f:List Dt->gJ Dt):List V->Hp->VK->Prop:=λ xs H Q=>∃ ds d,Iss K H xs ds/\f ds=My d/\∀ v H',g6 H H'->Is K H' v d->Q v H'
def spD (K:gK)(n:Nat)(f:List Dt->gJ Dt):Sp:=λ xs H Q _=>∃ ds d,ds.length=n/\Iss K H xs ds/\f ds=My d/\∀ v H',g6 H H'->Is K H' v d->Q v H'
def gT (i:Nat):DE->gJ Dt:=λ δ=>(δ[i]?).join
def gC (d:Dt):DE->gJ Dt:=λ _=>My d
def g_ (f:Dt->Dt->gJ Dt)(a b:DE->gJ Dt):DE->gJ Dt:=λ δ=>(a δ).bind λ x=>(b δ).bind λ y=>f x y
def gS:DE->gJ (List Dt):=λ _=>My []
section
variable {X:Cx}{e a b c:Expr}{es:List Expr}{pos:Pos}
theorem PE.of {t t':TE}(h:PE X e t)(w:∀ σ H Q,t' σ H Q->t σ H Q):PE X e t':=λ pins s σ H Q I q=>h pins s σ H Q I (w σ H Q q)
theorem PT.of {t t':TT}(h:PT X e t)(w:∀ σ H Q,t' σ H Q->t σ H Q):PT X e t':=λ pins s σ H Q I q=>h pins s σ H Q I (w σ H Q q)
theorem PW.of {t t':TT}(h:PW X e t)(w:∀ σ H Q,t' σ H Q->t σ H Q):PW X e t':=λ wh pins s σ H Q I q=>h wh pins s σ H Q I (w σ H Q q)
theorem PA.of {t t':TA}(h:PA X es t)(w:∀ σ H Q,t' σ H Q->t σ H Q):PA X es t':=λ p pins s σ H Q I q=>h p pins s σ H Q I (w σ H Q q)
theorem PS.of {st:Stmt}{t t':TS}(h:PS X st t)(w:∀ D σ H,t' D σ H->t D σ H):PS X st t':=λ pins s σ H D I q=>h pins s σ H D I (w D σ H q)
theorem PSs.of {st:List Stmt}{t t':TS}(h:PSs X st t)(w:∀ D σ H,t' D σ H->t D σ H):PSs X st t':=λ pins s σ H D I q=>h pins s σ H D I (w D σ H q)
abbrev PD (X:Cx)(e:Expr)(g:DE->gJ Dt):Prop:=PE X e (tD X.K g)
abbrev PDT (X:Cx)(e:Expr)(g:DE->gJ Bool):Prop:=PT X e (tDT X.K g)
abbrev PDW (X:Cx)(e:Expr)(g:DE->gJ Bool):Prop:=PW X e (tDT X.K g)
abbrev PDs (X:Cx)(es:List Expr)(g:DE->gJ (List Dt)):Prop:=PA X es (tDs X.K g)
theorem HU {i:Nat}{δ:DE}{d:Dt}(h:gT i δ=My d):δ[i]?=My (My d):=by
 unfold gT at h;cases q:δ[i]? with
 | none=>rw[q]at h;cases h
 | some w=>rw[q]at h;exact cN My h
theorem dv (i:Nat){x:Str}(hN:X.N[i]?=My x:=by rfl)(hv:Vis X.env.scope x:=by trivial)(hd:(x==("__debug__":Str))=U7:=by decide)
  (hcd:(x==("__classdict__":Str))=U7:=by decide):PD X (.Name x pos) (gT i) :=
 (G7 hN hv hd hcd).of λ σ H Q hz1=>by obtain⟨δ,d,S,e,q⟩:=hz1;obtain⟨v,h1,h2⟩:=S.at_ i d (HU e);exact⟨v,h1,q v H (g6.refl H) h2⟩
theorem hX {i:Int}{j}:PD X (.Constant (.int i) j pos) (gC (.int i)):=ic.of λ σ H Q ⟨δ,d,S,e,q⟩=>by cases e;exact q _ H (g6.refl H) (.int i)
theorem tI {i:Bool}{j}:PD X (.Constant (.bool i) j pos) (gC (.bl i)):=wQ.of λ σ H Q ⟨δ,d,S,e,q⟩=>by cases e;exact q _ H (g6.refl H) (.bl i)
theorem qK {x:Str}{j}:PD X (.Constant (.str x) j pos) (gC (.str x)):=Aj.of λ σ H Q ⟨δ,d,S,e,q⟩=>by cases e;exact q _ H (g6.refl H) (.str x)
theorem Ox {x:Str}{u:gL}{v:V}{d:Dt}(hm:X.mg x=My u)(r:RelV v u)(hI:∀ H,Is X.K H v d)(hg:Gl X x:=by rfl)(hd:(x==("__debug__":Str))=U7:=by decide):PD X (.Name x pos) (gC d) :=
 (EI hg hm r hd).of λ σ H Q ⟨δ,d',S,e,q⟩=>by cases e;exact q _ H (g6.refl H) (hI H)
theorem yT {x:Str}{T:String}(hm:X.mg x=U5)(hv:bootBuiltins x=My (.type T))(hg:Gl X x:=by rfl)(hn:x≠"__name__":=by decide)(hd:(x==("__debug__":Str))=U7:=by decide):PD X (.Name x pos) (gC (.ty T)) :=
 (EJ (v:=.ty T) hg hm hv rfl hn hd).of λ σ H Q ⟨δ,d',S,e,q⟩=>by cases e;exact q _ H (g6.refl H) (.ty T)
theorem xw {f:Dt->Dt->gJ Dt}{ga gb:DE->gJ Dt}{δ:DE}{d:Dt}(h:g_ f ga gb δ=My d):∃ x y,ga δ=My x/\gb δ=My y/\f x y=My d:=by
 unfold g_ at h;cases p:ga δ with
 | none=>rw[p]at h;cases h
 | some x =>
  rw[p]at h;cases q:gb δ with
  | none=>rw[ak,q]at h;cases h
  | some y=>rw[ak,q,ak]at h;exact⟨x,y,rfl,rfl,h⟩
theorem AI {K:gK}{f:Dt->Dt->gJ Dt}{ga gb:DE->gJ Dt}(σ:St)(H:Hp)(Q:VK)(h:tD K (g_ f ga gb) σ H Q):tOp (rD K f) (tD K ga) (tD K gb) σ H Q:=by obtain⟨δ,d,S,e,q⟩:=h;obtain⟨x,y,e1,e2,e3⟩:=xw e;refine⟨δ,x,S,e1,λ v H1 s1 i1=>⟨δ,y,S.ext s1,e2,λ w H2 s2 i2=>⟨x,y,d,i1.ext s2,i2,e3,λ u H3 s3 i3=>q u H3 ((s1.trans s2).trans s3) i3⟩⟩⟩
theorem jt {op:Operator}{f:Dt->Dt->gJ Dt}{ga gb:DE->gJ Dt}(ho:OpR X (binaryOp op) (rD X.K f))(ha:PD X a ga)(hb:PD X b gb):PD X (.BinOp a op b pos) (g_ f ga gb):=(jM ho ha hb).of AI
theorem sf {op:CmpOp}{f:Dt->Dt->gJ Dt}{ga gb:DE->gJ Dt}(ho:OpR X (compareOp op) (rD X.K f))(ha:PD X a ga)(hb:PD X b gb)(hm:behindInMarks op b=U7:=by first | exact wY _ | with_unfolding_all rfl):PD X (.Compare a [op] [b] pos) (g_ f ga gb):=(Ky ho ha hb hm).of AI
def asB:Dt->gJ Bool
 | .bl b=>My b
 | _=>U5
theorem tJ {d:Dt}{b:Bool}(h:asB d=My b):d=.bl b:=by cases d<;>simp[asB]at h;rw[h]
def gB (g:DE->gJ Dt):DE->gJ Bool:=λ δ=>(g δ).bind asB
theorem DT {g:DE->gJ Dt}{δ:DE}{b:Bool}(h:gB g δ=My b):g δ=My (.bl b):=by
 unfold gB at h;cases p:g δ with
 | none=>rw[p]at h;cases h
 | some x=>rw[p]at h;rw[tJ h]
theorem Is.jY {K:gK}{H:Hp}{v:V}{b:Bool}(h:Is K H v (.bl b)):v=.bl b:=by cases h;rfl
theorem Is.int_inv {K:gK}{H:Hp}{v:V}{b:Int}(h:Is K H v (.int b)):v=.int b:=by cases h;rfl
theorem Is.str_inv {K:gK}{H:Hp}{v:V}{b:Str}(h:Is K H v (.str b)):v=.str b:=by cases h;rfl
theorem Is.m_ {K:gK}{H:Hp}{v:V}{b:V}(h:Is K H v (.opq b)):v=b:=by cases h;rfl
theorem Is.HV {K:gK}{H:Hp}{v:V}{b:String}(h:Is K H v (.ty b)):v=.ty b:=by cases h;rfl
theorem Is.AJ {K:gK}{H:Hp}{v:V}(h:Is K H v .non):v=.non:=by cases h;rfl
theorem Is.iI {K:gK}{H:Hp}{v:V}{ds:List Dt}(h:Is K H v (.tup ds)):∃ a xs,v=.ref a/\SqT K H a xs/\Iss K H xs ds:=by cases h;exact⟨_,_,rfl,by assumption,by assumption⟩
theorem Is.rC {K:gK}{H:Hp}{v:V}{ds:List (Int×Int)}(h:Is K H v (.dct ds)):∃ a,v=.ref a/\Rd H a (.dK (kvD ds)):=by cases h;exact⟨_,rfl,by assumption⟩
theorem Is.lst_inv {K:gK}{H:Hp}{v:V}{ds:List Dt}(h:Is K H v (.lst ds)):∃ a xs,v=.ref a/\H a=My (.lst xs)/\Iss K H xs ds:=by cases h;exact⟨_,_,rfl,by assumption,by assumption⟩
theorem M5 {K:gK}{g:DE->gJ Dt}(σ:St)(H:Hp)(Q:Bool->Hp->Prop)(h:tDT K (gB g) σ H Q):tD K g σ H λ x H'=>∃ k,x=.bl k/\Q k H':=by obtain⟨δ,b,S,e,q⟩:=h;exact⟨δ,_,S,DT e,λ v H1 s1 i1=>⟨b,i1.jY,q H1 s1⟩⟩
theorem jZ {op:CmpOp}{f:Dt->Dt->gJ Dt}{ga gb:DE->gJ Dt}(ho:OpR X (compareOp op) (rD X.K f))(ha:PD X a ga)(hb:PD X b gb)(hm:behindInMarks op b=U7:=by first | exact wY _ | with_unfolding_all rfl):PDT X (.Compare a [op] [b] pos) (gB (g_ f ga gb)) :=
 (wd ho ha hb hm).of λ σ H Q h=>AI σ H _ (M5 σ H Q h)
def qL (f f':Dt->Dt->gJ Dt)(ga gb gc:DE->gJ Dt):DE->gJ Dt:=λ δ=>(ga δ).bind λ x=>(gb δ).bind λ y=>(f x y).bind λ z=>(asB z).bind λ k=>if k=U6 then (gc δ).bind λ w=>f' y w else My (.bl U7)
theorem gU {α β:Type}{o:gJ α}{f:α->gJ β}{b:β}(h:o.bind f=My b):∃ a,o=My a/\f a=My b:=by
 cases o with
 | none=>cases h
 | some a=>exact⟨a,rfl,h⟩
theorem Cb {K:gK}{f f':Dt->Dt->gJ Dt}{ga gb gc:DE->gJ Dt}(σ:St)(H:Hp)(Q:VK)(h:tD K (qL f f' ga gb gc) σ H Q):Ds (rD K f) (rD K f') (tD K ga) (tD K gb) (tD K gc) σ H Q:=by
 obtain⟨δ,d,S,e,q⟩:=h;obtain⟨x,e1,e⟩:=gU e;obtain⟨y,e2,e⟩:=gU e;obtain⟨z,e3,e⟩:=gU e;obtain⟨k,e4,e⟩:=gU e;have e4:=tJ e4;subst e4;refine⟨δ,x,S,e1,λ v H1 s1 i1=>⟨δ,y,S.ext s1,e2,λ w H2 s2 i2=>⟨x,y,_,i1.ext s2,i2,e3,λ u H3 s3 i3=>⟨k,i3.jY,?_⟩⟩⟩⟩;cases k with
 | true =>obtain⟨w',e5,e6⟩:=gU (show(gc δ).bind _=_ from e);rw[ai rfl];exact⟨δ,w',S.ext ((s1.trans s2).trans s3),e5,λ u' H4 s4 i4=>⟨y,w',d,(i2.ext s3).ext s4,i4,e6,λ u5 H5 s5 i5=>q u5 H5 ((((s1.trans s2).trans s3).trans s4).trans s5) i5⟩⟩
 | false =>rw[au ax];cases (show My (Dt.bl U7)=My d from e);exact q _ H3 ((s1.trans s2).trans s3) (.bl U7)
theorem K8 {op op':CmpOp}{f f':Dt->Dt->gJ Dt}{ga gb gc:DE->gJ Dt}(ho:OpR X (compareOp op) (rD X.K f))(ho':OpR X (compareOp op') (rD X.K f'))(ha:PD X a ga)(hb:PD X b gb)(hc:PD X c gc)
  (hm:lastMarks [op,op'] [b,c]=U7:=by with_unfolding_all rfl):PD X (.Compare a [op,op'] [b,c] pos) (qL f f' ga gb gc):=(Hl ho ho' ha hb hc hm).of Cb
theorem xx {op op':CmpOp}{f f':Dt->Dt->gJ Dt}{ga gb gc:DE->gJ Dt}(ho:OpR X (compareOp op) (rD X.K f))(ho':OpR X (compareOp op') (rD X.K f'))(ha:PD X a ga)(hb:PD X b gb)(hc:PD X c gc)
  (hm:lastMarks [op,op'] [b,c]=U7:=by with_unfolding_all rfl):PDT X (.Compare a [op,op'] [b,c] pos) (gB (qL f f' ga gb gc)):=(Hm ho ho' ha hb hc hm).of λ σ H Q h=>Cb σ H _ (M5 σ H Q h)
def Cc (ga gb:DE->gJ Dt):DE->gJ Dt:=λ δ=>(gB ga δ).bind λ k=>if k=U6 then gb δ else My (.bl U7)
def Oy (ga:DE->gJ Dt):DE->gJ Dt:=λ δ=>(gB ga δ).map λ k=>.bl (!k)
theorem zI {op}{g:DE->gJ Dt}(h:PD X a g):PD X (.BoolOp op [a] pos) g:=NS h
theorem xy {rest:List Expr}{ga gb:DE->gJ Dt}(ha:PD X a ga)(hb:PD X (.BoolOp .And (b::rest) pos) gb):PD X (.BoolOp .And (a::b::rest) pos) (Cc ga gb) :=
 (NT ha hb).of λ σ H Q hz2=>by
  obtain⟨δ,d,S,e,q⟩:=hz2;obtain⟨k,e1,e⟩:=gU e;refine⟨δ,_,S,DT e1,λ v H1 s1 i1=>⟨k,i1.jY,?_⟩⟩;cases k with
  | true=>rw[ai rfl]at e ⊢;exact⟨δ,d,S.ext s1,e,λ u H2 s2 i2=>q u H2 (s1.trans s2) i2⟩
  | false=>rw[au ax]at e ⊢;cases e;exact q _ H1 s1 (.bl U7)
theorem iA {α β:Type}{o:gJ α}{f:α->β}{b:β}(h:o.map f=My b):∃ a,o=My a/\f a=b:=by
 cases o with
 | none=>cases h
 | some a=>exact⟨a,rfl,ao h⟩
theorem M6 {ga:DE->gJ Dt}(ha:PD X a ga):PD X (.UnaryOp .Not a pos) (Oy ga) :=
 (NU ha).of λ σ H Q hz4=>by obtain⟨δ,d,S,e,q⟩:=hz4;obtain⟨k,e1,e⟩:=iA e;subst e;exact⟨δ,_,S,DT e1,λ v H1 s1 i1=>⟨k,i1.jY,q _ H1 s1 (.bl _)⟩⟩
def HW (ga gb:DE->gJ Bool):DE->gJ Bool:=λ δ=>(ga δ).bind λ k=>if k=U6 then gb δ else My U7
def tK (ga gb:DE->gJ Bool):DE->gJ Bool:=λ δ=>(ga δ).bind λ k=>if k=U6 then My U6 else gb δ
def lP (ga:DE->gJ Bool):DE->gJ Bool:=λ δ=>(ga δ).map (!·)
theorem kJ {ga:DE->gJ Bool}(ha:PDT X a ga):PDT X (.UnaryOp .Not a pos) (lP ga) :=
 (G9 ha).of λ σ H Q hz5=>by obtain⟨δ,d,S,e,q⟩:=hz5;obtain⟨k,e1,e⟩:=iA e;subst e;exact⟨δ,_,S,e1,λ H1 s1=>q H1 s1⟩
theorem K9 {ga:DE->gJ Bool}(ha:PDT X a ga):PDW X (.BoolOp .And [a] pos) ga:=Ks ha
theorem pB {ga:DE->gJ Bool}(ha:PDT X a ga):PDW X (.BoolOp .Or [a] pos) ga:=G8 ha
theorem OA {rest:List Expr}{ga gb:DE->gJ Bool}(ha:PDT X a ga)(hb:PDW X (.BoolOp .And (b::rest) pos) gb):PDW X (.BoolOp .And (a::b::rest) pos) (HW ga gb) :=
 (NR ha hb).of λ σ H Q hz6=>by
  obtain⟨δ,d,S,e,q⟩:=hz6;obtain⟨k,e1,e⟩:=gU e;refine⟨δ,_,S,e1,λ H1 s1=>?_⟩;cases k with
  | true=>rw[ai rfl]at e ⊢;exact⟨δ,d,S.ext s1,e,λ H2 s2=>q H2 (s1.trans s2)⟩
  | false=>rw[au ax]at e ⊢;cases e;exact q H1 s1
theorem qk {rest:List Expr}{ga gb:DE->gJ Bool}(ha:PDT X a ga)(hb:PDW X (.BoolOp .Or (b::rest) pos) gb):PDW X (.BoolOp .Or (a::b::rest) pos) (tK ga gb) :=
 (MO ha hb).of λ σ H Q hz7=>by
  obtain⟨δ,d,S,e,q⟩:=hz7;obtain⟨k,e1,e⟩:=gU e;refine⟨δ,_,S,e1,λ H1 s1=>?_⟩;cases k with
  | false=>rw[au ax]at e ⊢;exact⟨δ,d,S.ext s1,e,λ H2 s2=>q H2 (s1.trans s2)⟩
  | true=>rw[ai rfl]at e ⊢;cases e;exact q H1 s1
theorem yU {ga:DE->gJ Bool}(h:PDW X a ga):PDT X a ga:=h.pt
def gIf (gc:DE->gJ Bool)(ga gb:DE->gJ Dt):DE->gJ Dt:=λ δ=>(gc δ).bind λ k=>if k=U6 then ga δ else gb δ
theorem QT {gc:DE->gJ Bool}{ga gb:DE->gJ Dt}(hc:PDT X c gc)(ha:PD X a ga)(hb:PD X b gb):PD X (.IfExp c a b pos) (gIf gc ga gb) :=
 (BL hc ha hb).of λ σ H Q hz8=>by
  obtain⟨δ,d,S,e,q⟩:=hz8;obtain⟨k,e1,e⟩:=gU e;refine⟨δ,_,S,e1,λ H1 s1=>?_⟩;cases k with
  | true=>rw[ai rfl]at e ⊢;exact⟨δ,d,S.ext s1,e,λ u H2 s2 i2=>q u H2 (s1.trans s2) i2⟩
  | false=>rw[au ax]at e ⊢;exact⟨δ,d,S.ext s1,e,λ u H2 s2 i2=>q u H2 (s1.trans s2) i2⟩
def DU:Dt->gJ Bool
 | .non=>My U7
 | .bl b=>My b
 | .int i=>My (i != 0)
 | .str x=>if x.length<=1000 then My ((x.length:Int) != 0) else U5
 | .ty _=>U5
 | .opq _=>U5
 | .dct _=>U5
 | .tup ds=>My (!ds.isEmpty)
 | .lst ds=>My (!ds.isEmpty)
theorem rE {n:Nat}(h:n<=1000):n<=sizeLine:=by rw[sizeLine_eq];lia
theorem Iss.isEmpty {K:gK}{H:Hp}{vs:List V}{ds:List Dt}(h:Iss K H vs ds):vs.isEmpty=ds.isEmpty:=by cases h<;>rfl
set_option tactic.hygienic true in
theorem K_ {K:gK}{H:Hp}{v:V}{d:Dt}{k:Bool}(h:Is K H v d)(e:DU d=My k):Kz K v H k:=by
 cases h with
 | non=>cases e;rfl
 | bl b=>cases e;rfl
 | int b=>cases e;rfl
 | ty n=>cases e
 | opq n=>cases e
 | dct h=>cases e
 | str x =>
  have e:(if x.length<=1000 then My ((x.length:Int) != 0) else U5)=My k:=e;split at e
  ·rename_i h;cases e;exact⟨rE h,rfl⟩
  ·cases e
 | tup h1 h2=>cases e;exact .inr (.inl ⟨_,h1,by rw[h2.isEmpty]⟩)
 | lst h1 h2=>cases e;exact .inl ⟨_,SqL.of h1,by rw[h2.isEmpty]⟩
def gTr (g:DE->gJ Dt):DE->gJ Bool:=λ δ=>(g δ).bind DU
theorem lj {g:DE->gJ Dt}(h:PD X e g)(he:∀ whole,isTrue e X.env whole=(do let v<-whole;standAt e.pos;holding [v] (truthy v)):=by intro _;rfl):PDT X e (gTr g) :=
 (BU h he).of λ σ H Q hz9=>by obtain⟨δ,d,S,e,q⟩:=hz9;obtain⟨x,e1,e2⟩:=gU e;exact⟨δ,x,S,e1,λ v H1 s1 i1=>⟨d,K_ i1 e2,q H1 s1⟩⟩
def gP (g:DE->gJ Dt)(gs:DE->gJ (List Dt)):DE->gJ (List Dt):=λ δ=>(g δ).bind λ x=>(gs δ).map λ r=>x::r
theorem gX:PDs X [] gS:=hZ.of λ σ H Q ⟨δ,d,S,e,q⟩=>by cases e;exact q [] H (g6.refl H) .nil
theorem gQ {g:DE->gJ Dt}{gs:DE->gJ (List Dt)}(ha:PD X e g)(hr:PDs X es gs)(hs:starEach (e::es) X.env=(U7,eval e X.env)::starEach es X.env:=by rfl):PDs X (e::es) (gP g gs) :=
 (gW ha hr hs).of λ σ H Q hz10=>by obtain⟨δ,d,S,e,q⟩:=hz10;obtain⟨x,e1,e⟩:=gU e;obtain⟨r,e2,e⟩:=iA e;subst e;exact⟨δ,x,S,e1,λ v H1 s1 i1=>⟨δ,r,S.ext s1,e2,λ vs H2 s2 i2=>q (v::vs) H2 (s1.trans s2) (.cons (i1.ext s2) i2)⟩⟩
def iX (gs:DE->gJ (List Dt)):DE->gJ Dt:=λ δ=>(gs δ).bind λ ds=>if ds.length<=1000 then My (.tup ds) else U5
def lQ (gs:DE->gJ (List Dt)):DE->gJ Dt:=λ δ=>(gs δ).bind λ ds=>if ds.length<=1000 then My (.lst ds) else U5
set_option tactic.hygienic true in
theorem jg {gs:DE->gJ (List Dt)}{x1}(h:PDs X es gs):PD X (.Tuple es x1 pos) (iX gs) :=
 (qC h).of λ σ H Q hz11=>by
  obtain⟨δ,d,S,e,q⟩:=hz11;obtain⟨ds,e1,e⟩:=gU e;split at e
  ·cases e;rename_i hl;exact⟨δ,ds,S,e1,λ vs H1 s1 i1=>⟨rE (by rw[i1.length];exact hl),λ p hp=>q _ _ (s1.trans (g6.upd hp)) (.tup (SqT.of gZ) (i1.ext (g6.upd hp)))⟩⟩
  ·cases e
set_option tactic.hygienic true in
theorem lZ {gs:DE->gJ (List Dt)}(h:PDs X es gs):PD X (.List es pos) (lQ gs) :=
 (kG h).of λ σ H Q hz12=>by
  obtain⟨δ,d,S,e,q⟩:=hz12;obtain⟨ds,e1,e⟩:=gU e;split at e
  ·cases e;rename_i hl;exact⟨δ,ds,S,e1,λ vs H1 s1 i1=>⟨rE (by rw[i1.length];exact hl),λ p hp=>q _ _ (s1.trans (g6.upd hp)) (.lst gZ (i1.ext (g6.upd hp)))⟩⟩
  ·cases e
def iM (f:List Dt->gJ Dt)(gs:DE->gJ (List Dt)):DE->gJ Dt:=λ δ=>(gs δ).bind f
theorem M7 {K:gK}{f:List Dt->gJ Dt}{gs:DE->gJ (List Dt)}(σ:St)(H:Hp)(Q:VK)(h:tD K (iM f gs) σ H Q):tCB (cD K f) (tDs K gs) σ H Q:=by obtain⟨δ,d,S,e,q⟩:=h;obtain⟨ds,e1,e2⟩:=gU e;exact⟨δ,ds,S,e1,λ vs H1 s1 i1=>⟨ds,d,i1,e2,λ v H2 s2 i2=>q v H2 (s1.trans s2) i2⟩⟩
theorem iL {x:Str}{p:Pos}{id:String}{f:List Dt->gJ Dt}{gs:DE->gJ (List Dt)}(hc:jy X (.builtin id) (cD X.K f))(hm:X.mg x=U5)(hv:bootBuiltins x=My (.builtin id))(ha:PDs X (e::es) gs)(hg:Gl X x:=by rfl)(hn:x≠"__name__":=by decide)(hdb:(x==("__debug__":Str))=U7:=by decide)
  (he:starEach (e::es) X.env=(U7,eval e X.env)::starEach es X.env:=by rfl) (hpl:(backTo pos (starEach es X.env)).any (·.1)=U7:=by rfl):PD X (.Call (.Name x p) (e::es) [] pos) (iM f gs):=(kD hc hg hm hv ha hn hdb he hpl).of M7
theorem kN {x:Str}{p:Pos}{T:String}{f:List Dt->gJ Dt}{gs:DE->gJ (List Dt)}(hc:jy X (.type T) (cD X.K f))(hm:X.mg x=U5)(hv:bootBuiltins x=My (.type T))(ha:PDs X (e::es) gs)(hg:Gl X x:=by rfl)(hn:x≠"__name__":=by decide)(hdb:(x==("__debug__":Str))=U7:=by decide)
  (he:starEach (e::es) X.env=(U7,eval e X.env)::starEach es X.env:=by rfl) (hpl:(backTo pos (starEach es X.env)).any (·.1)=U7:=by rfl):PD X (.Call (.Name x p) (e::es) [] pos) (iM f gs):=(kW hc hg hm hv ha hn hdb he hpl).of M7
def hG (n:Nat)(f:List Dt->gJ Dt)(gs:DE->gJ (List Dt)):DE->gJ Dt:=λ δ=>(gs δ).bind λ ds=>if ds.length=n then f ds else U5
set_option tactic.hygienic true in
theorem OB {x:Str}{p:Pos}{k n:Nat}{f:Addr}{fd:FuncData}{ps:List Str}{fD:List Dt->gJ Dt}{gs:DE->gJ (List Dt)}(F:pg X.prog X.w X.K X.mg X.base CX0 k f fd ps (spD X.K n fD))(hr:jI k X.A)(hm:X.mg x=My (.ref f))(hk:PySem.W.keepIn X.K (.ref f)=U6)(hb:Binds X.K fd ps [])
  (ha:PDs X (e::es) gs) (hg:Gl X x:=by rfl) (hdb:(x==("__debug__":Str))=U7:=by decide) (he:starEach (e::es) X.env=(U7,eval e X.env)::starEach es X.env:=by rfl) (hpl:(backTo pos (starEach es X.env)).any (·.1)=U7:=by rfl) :
  PD X (.Call (.Name x p) (e::es) [] pos) (hG n fD gs) :=
 (s_ F hr hg hm hk hb .nil MY ha hdb he hpl).of λ σ H Q hz13=>by
  obtain⟨δ,d,S,e,q⟩:=hz13;obtain⟨ds,e1,e2⟩:=gU e;split at e2
  ·rename_i hl;exact⟨δ,ds,S,e1,λ vs H1 s1 i1=>by show spD X.K n fD (vs++[]) H1 Q E0;rw[bB];exact⟨ds,d,hl,i1,e2,λ v H2 s2 i2=>q v H2 (s1.trans s2) i2⟩⟩
  ·cases e2
end
end L2
namespace Zp
open PySem PySem.Spec PyProof.Rows
section
variable {prog:Program}{w:World}{A:Around}{E:gH}{s:gM}
theorem La {j t:Addr}{k:Nat}{arr:Array gL}{y:gL}{Q:gH}(hj:s.heap.IsTupleIter j t k)(ht:s.heap.IsTuple t arr)(hy:arr[k]?=My y)
  (fin:∀ g,g.IsTupleIter j t (k+1)->Heap.SameBut j s.heap g->Q y {s with heap:=g}):wpAny (model prog w) A (Builtin.SmallTypes.nextOf (.ref j)) Q E s:=by
 have hty:=hj.typeIs;obtain⟨oj,gj,cj,dj⟩:=hj;obtain⟨ot,gt,_,nt,dt⟩:=ht;unfold Builtin.SmallTypes.nextOf;refine ae (bP (name:=Str.ofString "__next__") hty du (bY du hty F.entry_tuple_iterator_next ?_ (F.args_tuple_iterator_next_1 _)));show wpAny _ _ (field (.ref j) 0>>=_) _ _ s;refine ae (bV gj dj (x:=.ref t) rfl ?_);show wpAny _ _ (if (Value.ref t==Value.none)=U6 then _ else _) _ _ s;rw[au (show ¬ (Value.ref t==Value.none)=U6 from λ q=>ax q)];show wpAny _ _ (field (.ref j) 1>>=_) _ _ s;refine ae (bV gj dj (x:=.int k 0) rfl ?_);show wpAny _ _ (seqItems? (.ref t)>>=_) _ _ s;refine ae (cF gt dt ?_);simp only[hy,cg];refine ae (fi gj dj (by simp) (af ⟨y,rfl,af (fin _ ⟨_,dz _ gj (fw (dq dj _)),(fZ ..).trans cj,?_⟩ (cK ..))⟩));rw[dq dj];simp[rawInt]
theorem DV {j t:Addr}{k:Nat}{arr:Array gL}{Q:gH}(hh:A.handled=U5)(hj:s.heap.IsTupleIter j t k)(ht:s.heap.IsTuple t arr)(hy:arr[k]?=U5)
  (fin:∀ g e,Heap.ExtBut j s.heap g->(∃ o,g.get? e=My o/\o.cls=.type "StopIteration")->E (.ref e) {s with heap:=g}):wpAny (model prog w) A (Builtin.SmallTypes.nextOf (.ref j)) Q E s:=by
 have hty:=hj.typeIs;obtain⟨oj,gj,cj,dj⟩:=hj;obtain⟨ot,gt,_,nt,dt⟩:=ht;unfold Builtin.SmallTypes.nextOf;refine ae (bP (name:=Str.ofString "__next__") hty du (bY du hty F.entry_tuple_iterator_next ?_ (F.args_tuple_iterator_next_1 _)));show wpAny _ _ (field (.ref j) 0>>=_) _ _ s;refine ae (bV gj dj (x:=.ref t) rfl ?_);show wpAny _ _ (if (Value.ref t==Value.none)=U6 then _ else _) _ _ s;rw[au (show ¬ (Value.ref t==Value.none)=U6 from λ q=>ax q)];show wpAny _ _ (field (.ref j) 1>>=_) _ _ s;refine ae (bV gj dj (x:=.int k 0) rfl ?_);show wpAny _ _ (seqItems? (.ref t)>>=_) _ _ s;refine ae (cF gt dt ?_);simp only[hy,cg];refine ae (f_ (ae (fi gj dj (by simp) (show wpAny _ _ (newExc (.type "StopIteration") []>>=_) _ _ _ from ae ?_))));simp only[newTuple,newExc];refine ae (bw (ae (m:=firstArgMember _ _) (wpAny_of_eq (a:=Value.none) (by first | rfl | (simp only[firstArgMember];rfl)) (bw ?_ (by size_fits)))) (by size_fits));simp only[raiseNew];refine ae (wpAny_handled ?_);first | rw[hh] | rw[show A.in1.handled=U5 from hh]
 exact ae (af (wpAny_throw (fin _ _ (((cK ..).extBut.push _).push _) ⟨_,aF _ rfl,rfl⟩)))
theorem HX (hh:A.handled=U5)(j t:Addr)(ne:t≠j)(arr:Array gL):Draws prog w A j [j,t] arr.size (λ i v=>arr[i]?=My v) (λ i h=>h.IsTupleIter j t i/\h.IsTuple t arr) where
 live:=λ _ _ st=>let ⟨o,ho,_⟩:=st.1;⟨o,ho⟩
 frame:=λ _ _ _ st hk=>⟨let ⟨o,ho,r⟩:=st.1;⟨o,hk j (by simp) o ho,r⟩,let ⟨o,ho,r⟩:=st.2;⟨o,hk t (by simp) o ho,r⟩⟩
 item:=λ i s Q E hi st fin=>La st.1 st.2 (y:=arr[i]) (by simp[hi]) λ g a b=>fin _ g s.toks (by simp[hi]) ⟨a,st.2.extBut b.extBut ne⟩ b
 done:=λ s Q E st fin=>DV hh st.1 st.2 (by simp) fin
structure Ap (z T O i j:Addr)(f g:List Addr):Prop where
 Tz:T≠z
 Oz:O≠z
 TO:T≠O
 iz:i≠z
 jz:j≠z
 Ti:T≠i
 Tj:T≠j
 Oi:O≠i
 Oj:O≠j
 ij:i≠j
 zf:z∉f
 zg:z∉g
 Of:O∉f
 Og:O∉g
 jf:j∉f
 ig:i∉g
variable {z T O i j:Addr}{f g:List Addr}{n m:Nat}{P R:Nat->gL->Prop}{S U:Nat->Heap->Prop}
theorem QU (ap:Ap z T O i j f g)(C:Draws prog w A i f n P S)(D:Draws prog w A j g m R U){k:Nat}{a b:gL}{Q:gH}(hn:k<n)(hm:k<m)
  (hz:IsZip s.heap z T O .none) (hT:IsPair s.heap T (.ref i) (.ref j)) (hO:IsPair s.heap O a b) (h1:S k s.heap) (h2:U k s.heap)
  (fin:∀ h' N tk x y,P k x->R k y->s.heap.objs.size<=N->IsZip h' z T O (rawInt N)->IsPair h' O x y->S (k+1) h'->U (k+1) h'->IsPair h' N x y ->
   (∀ c o,c≠z->c≠O->c≠i->c≠j->s.heap.get? c=My o->h'.get? c=My o)->Q (.ref N) {s with heap:=h',toks:=tk}) :
  wpAny (model prog w) A (Builtin.«zip.__next__» ⟨[.ref z],[]⟩) (λ fn s'=>∃ v,fn=.done (.ret v)/\Q v s') E s:=by
 show wpAny _ _ (field (.ref z) 2>>=_) _ _ _;refine ae (bV hz rfl (x:=.bool U7) rfl (show wpAny _ _ (field (.ref z) 3>>=_) _ _ _ from ae (bV hz rfl (x:=.ref T) rfl (ae (cF hT rfl ?_)))));show wpAny _ _ (Builtin.SmallTypes.ownedTupleIsFree (.ref z)>>=_) _ _ _;refine ae ?_;unfold Builtin.SmallTypes.ownedTupleIsFree;refine ae (bV hz rfl (x:=.none) rfl (af ?_));simp only[dJ];refine ae (f_ (ae (bV hz rfl (x:=.ref O) rfl (ae (dw hz (by simp) λ g1 hz1 e1=>?_)))));replace hz1:IsZip g1 z T O .ellipsis:=hz1;refine ae ?_;simp only[List.zipIdx_nil,List.zipIdx_cons,fT,eT];have z1:∀ {c o},c≠z->s.heap.get? c=My o->g1.get? c=My o:=λ hc e=>e1.extBut _ _ hc e;have mem:∀ {c y:Addr} {l:List Addr},y∉l->c∈l->c≠y:=λ hn hm e=>hn (e▸hm);refine ae (ae (fF (show wpAny _ _ (Builtin.SmallTypes.nextOf (.ref i)>>=_) _ _ _ from ae (C.item k _ _ _ hn (C.frame k _ _ h1 λ c hc o e=>z1 (mem ap.zf hc) e) λ x g2 tk2 px s2 e2=>af ?_))));have hO2:IsPair g2 O a b:=e2.extBut _ _ ap.Oi (z1 ap.Oz hO);refine ae (cF hO2 rfl (ae (fI hO2 λ g3 hO3 e3=>?_)));replace hO3:IsPair g3 O x b:=hO3;refine ae (wpAny_letGo (af (ae (ae (fF ?_)))));show wpAny _ _ (Builtin.SmallTypes.nextOf (.ref j)>>=_) _ _ _;refine ae (D.item k _ _ _ hm (D.frame k _ _ h2 λ c hc o e=>e3.extBut _ _ (mem ap.Og hc) (e2.extBut _ _ (mem ap.ig hc) (z1 (mem ap.zg hc) e))) λ y g4 tk4 py s4 e4=>af ?_);have hO4:IsPair g4 O x b:=e4.extBut _ _ ap.Oj hO3;refine ae (cF hO4 rfl (ae (fI hO4 λ g5 hO5 e5=>?_)));replace hO5:IsPair g5 O x y:=hO5;refine ae (wpAny_letGo (af (af (ae (cF hO5 rfl (ae (wpAny_newTuple ?_)))))));have size5:g5.objs.size=s.heap.objs.size:=by rw[e5.1,e4.1,e3.1,e2.1,e1.1]
 have hz5:IsZip g5 z T O .ellipsis:=e5.extBut _ _ ap.Oz.symm (e4.extBut _ _ ap.jz.symm (e3.extBut _ _ ap.Oz.symm (e2.extBut _ _ ap.iz.symm hz1)));have k5:∀ c o,c≠z->c≠O->c≠i->c≠j->s.heap.get? c=My o->g5.get? c=My o:=λ c o q1 q2 q3 q4 e=>e5.extBut _ _ q2 (e4.extBut _ _ q4 (e3.extBut _ _ q2 (e2.extBut _ _ q3 (z1 q1 e))));have s5:S (k+1) g5:=C.frame _ _ _ s2 λ c hc o e=>e5.extBut _ _ (mem ap.Of hc) (e4.extBut _ _ (mem ap.jf hc) (e3.extBut _ _ (mem ap.Of hc) e));have u5:U (k+1) g5:=D.frame _ _ _ s4 λ c hc o e=>e5.extBut _ _ (mem ap.Og hc) e;have zlt:z<g5.objs.size:=av hz5;show wpAny _ _ (Builtin.SmallTypes.ownedTupleHandOut (.ref z) (.ref g5.objs.size)>>=_) _ _ _;refine ae ?_;unfold Builtin.SmallTypes.ownedTupleHandOut;have hz6:IsZip (g5.push {cls:=.type "tuple",data:=.seq #[x,y]}) z T O .ellipsis:=ag _ hz5;refine ae (dw hz6 (by simp) λ g7 hz7 e7=>?_);replace hz7:IsZip g7 z T O (rawInt g5.objs.size):=hz7;refine dw hz7 (by simp) λ g8 hz8 e8=>af ⟨_,rfl,?_⟩;have up:∀ c o,c≠z->g5.get? c=My o->g8.get? c=My o:=λ c o q e=>e8.extBut _ _ q (e7.extBut _ _ q (ag _ e));exact fin g8 g5.objs.size _ x y px py (fM size5.symm) hz8 (up _ _ ap.Oz hO5) (C.frame _ _ _ s5 λ c hc o e=>up _ _ (mem ap.zf hc) e) (D.frame _ _ _ u5 λ c hc o e=>up _ _ (mem ap.zg hc) e)
  (e8.extBut _ _ (bU zlt) (e7.extBut _ _ (bU zlt) (aF _ rfl))) λ c o q1 q2 q3 q4 e=>up c o q1 (k5 c o q1 q2 q3 q4 e)
theorem zEnd (ap:Ap z T O i j f g)(C:Draws prog w A i f n P S)(D:Draws prog w A j g m R U){k:Nat}{a b:gL}{Q:Fin->gM->Prop}(hk:k=n\/(k<n/\k=m))
  (hz:IsZip s.heap z T O .none) (hT:IsPair s.heap T (.ref i) (.ref j)) (hO:IsPair s.heap O a b) (h1:S k s.heap) (h2:U k s.heap)
  (fin:∀ h' e tk,(∀ c o,c≠z->c≠O->c≠i->c≠j->s.heap.get? c=My o->h'.get? c=My o)->(∃ o,h'.get? e=My o/\o.cls=.type "StopIteration")->E (.ref e) {s with heap:=h',toks:=tk}) :
  wpAny (model prog w) A (Builtin.«zip.__next__» ⟨[.ref z],[]⟩) Q E s:=by
 show wpAny _ _ (field (.ref z) 2>>=_) _ _ _;refine ae (bV hz rfl (x:=.bool U7) rfl (show wpAny _ _ (field (.ref z) 3>>=_) _ _ _ from ae (bV hz rfl (x:=.ref T) rfl (ae (cF hT rfl ?_)))));show wpAny _ _ (Builtin.SmallTypes.ownedTupleIsFree (.ref z)>>=_) _ _ _;refine ae ?_;unfold Builtin.SmallTypes.ownedTupleIsFree;refine ae (bV hz rfl (x:=.none) rfl (af ?_));simp only[dJ];refine ae (f_ (ae (bV hz rfl (x:=.ref O) rfl (ae (dw hz (by simp) λ g1 hz1 e1=>?_)))));replace hz1:IsZip g1 z T O .ellipsis:=hz1;refine ae ?_;simp only[List.zipIdx_nil,List.zipIdx_cons,fT,eT];have z1:∀ {c o},c≠z->s.heap.get? c=My o->g1.get? c=My o:=λ hc e=>e1.extBut _ _ hc e;have mem:∀ {c y:Addr} {l:List Addr},y∉l->c∈l->c≠y:=λ hn hm e=>hn (e▸hm);have st1:S k g1:=C.frame k _ _ h1 λ c hc o e=>z1 (mem ap.zf hc) e;refine ae (ae (fF ?_));show wpAny _ _ (Builtin.SmallTypes.nextOf (.ref i)>>=_) _ _ _;rcases hk with rfl | ⟨hn,rfl⟩
 ·refine ae (C.done _ _ _ st1 λ g2 e x2 ⟨oe,he,ce⟩=>?_)
  have hz2:IsZip g2 z T O .ellipsis:=x2 _ _ ap.iz.symm hz1;have ez:e≠z:=λ q=>by subst q;rw[hz2]at he;cases he;simp at ce
  exact dw hz2 (by simp) λ g3 _ e3=>fin g3 e _ (λ c o q1 _ q3 _ x=>e3.extBut _ _ q1 (x2 _ _ q3 (z1 q1 x))) ⟨oe,e3.extBut _ _ ez he,ce⟩
 ·refine ae (C.item k _ _ _ hn st1 λ x g2 tk2 px s2 e2=>af ?_)
  have hO2:IsPair g2 O a b:=e2.extBut _ _ ap.Oi (z1 ap.Oz hO);refine ae (cF hO2 rfl (ae (fI hO2 λ g3 hO3 e3=>ae (wpAny_letGo (af (ae (ae (fF ?_))))))));show wpAny _ _ (Builtin.SmallTypes.nextOf (.ref j)>>=_) _ _ _;refine ae (D.done _ _ _ (D.frame k _ _ h2 λ c hc o e=>e3.extBut _ _ (mem ap.Og hc) (e2.extBut _ _ (mem ap.ig hc) (z1 (mem ap.zg hc) e))) λ g4 e x4 ⟨oe,he,ce⟩=>?_);have hz4:IsZip g4 z T O .ellipsis:=x4 _ _ ap.jz.symm (e3.extBut _ _ ap.Oz.symm (e2.extBut _ _ ap.iz.symm hz1));have ez:e≠z:=λ q=>by subst q;rw[hz4]at he;cases he;simp at ce
  exact dw hz4 (by simp) λ g5 _ e5=>fin g5 e _ (λ c o q1 q2 q3 q4 x=>e5.extBut _ _ q1 (x4 _ _ q4 (e3.extBut _ _ q2 (e2.extBut _ _ q3 (z1 q1 x))))) ⟨oe,e5.extBut _ _ ez he,ce⟩
theorem QV (ap:Ap z T O i j f g)(C:Draws prog w A.in1 i f n P S)(D:Draws prog w A.in1 j g m R U){k:Nat}{a b:gL}{Q:gJ gL->gM->Prop}(hn:k<n)(hm:k<m)
  (hz:IsZip s.heap z T O .none) (hT:IsPair s.heap T (.ref i) (.ref j)) (hO:IsPair s.heap O a b) (h1:S k s.heap) (h2:U k s.heap)
  (fin:∀ h' N tk x y,P k x->R k y->s.heap.objs.size<=N->IsZip h' z T O (rawInt N)->IsPair h' O x y->S (k+1) h'->U (k+1) h'->IsPair h' N x y ->
   (∀ c o,c≠z->c≠O->c≠i->c≠j->s.heap.get? c=My o->h'.get? c=My o)->Q (My (.ref N)) {s with heap:=h',toks:=tk}) :
  wpAny (model prog w) A (pyNext (.ref z)) Q E s:=by
 have ty:s.TypeIs (.ref z) "zip":=⟨_,hz,rfl⟩;unfold pyNext;exact ae (eQ (bP (name:=Str.ofString "__next__") ty fK (bY fK ty F.entry_zip_next
  (QU ap C D hn hm hz hT hO h1 h2 λ h' N tk x y q1 q2 q3 q4 q5 q6 q7 q8 q9=>af (fin h' N tk x y q1 q2 q3 q4 q5 q6 q7 q8 q9)) (F.args_zip_next_1 _))))
theorem QX (ap:Ap z T O i j f g)(C:Draws prog w A.in1 i f n P S)(D:Draws prog w A.in1 j g m R U){k:Nat}{a b:gL}{Q:gJ gL->gM->Prop}(hk:k=n\/(k<n/\k=m))
  (hz:IsZip s.heap z T O .none) (hT:IsPair s.heap T (.ref i) (.ref j)) (hO:IsPair s.heap O a b) (h1:S k s.heap) (h2:U k s.heap)
  (fin:∀ h' tk,(∀ c o,c≠z->c≠O->c≠i->c≠j->s.heap.get? c=My o->h'.get? c=My o)->Q U5 {s with heap:=h',toks:=tk}) :
  wpAny (model prog w) A (pyNext (.ref z)) Q E s:=by
 have ty:s.TypeIs (.ref z) "zip":=⟨_,hz,rfl⟩;unfold pyNext;refine ae (eQ (bP (name:=Str.ofString "__next__") ty fK (bY fK ty F.entry_zip_next
  (zEnd ap C D hk hz hT hO h1 h2 λ h' e tk q1 ⟨o,q2,q3⟩=>?_) (F.args_zip_next_1 _))))
 exact ae (wpAny_isInstance (T:="StopIteration") (b:=U6) ⟨o,q2,q3⟩ isSubtype_stop (af (fin _ _ q1)))
end
open L2
def qM (t:Bool)(a:Addr):Obj:=match t with
 | true=>{cls:=.type "tuple_iterator",data:=.fields #[.ref a,.int 0 0]}
 | false=>{cls:=.type "list_iterator",data:=.fields #[.ref a,.int 0 0]}
def IsB (t:Bool)(h:Heap)(a:Addr)(arr:Array gL):Prop:=match t with
 | true=>h.IsTuple a arr
 | false=>h.IsList a arr
def ItB (t:Bool)(h:Heap)(j a:Addr)(k:Nat):Prop:=match t with
 | true=>h.IsTupleIter j a k
 | false=>h.IsListIter j a k
def SqB (t:Bool)(K:gK)(H:Hp)(a:Addr)(xs:List V):Prop:=match t with
 | true=>SqT K H a xs
 | false=>SqL K H a xs
section
variable {prog:Program}{w:World}{A:Around}{E:gH}{s:gM}
theorem M8 {t:Bool}{a:Addr}{arr:Array gL}{Q:gH}(h:IsB t s.heap a arr)(q:Q (.ref s.heap.objs.size) {s with heap:=s.heap.push (qM t a)}):wpAny (model prog w) A (pyIter (.ref a)) Q E s:=by
 cases t with
 | true=>exact fN h q
 | false=>exact e_ h q
theorem IsB.push {t:Bool}{h:Heap}{a:Addr}{arr:Array gL}(x:IsB t h a arr)(o:Obj):IsB t (h.push o) a arr:=by
 cases t with
 | true=>exact Heap.IsTuple.push x o
 | false=>exact Heap.IsList.push x o
theorem ItB.keep {t:Bool}{h h':Heap}{j a:Addr}{k:Nat}(x:ItB t h j a k)(e:∀ o,h.get? j=My o->h'.get? j=My o):ItB t h' j a k:=by
 cases t with
 | true=>obtain⟨o,ho,r⟩:=x;exact⟨o,e o ho,r⟩
 | false=>obtain⟨o,ho,r⟩:=x;exact⟨o,e o ho,r⟩
theorem ItB.obj {t:Bool}{h:Heap}{j a:Addr}{k:Nat}(x:ItB t h j a k):∃ o,h.get? j=My o/\∀ v,o.data≠.cell v:=by
 cases t with
 | true=>obtain⟨o,ho,c,d⟩:=x;exact⟨o,ho,λ v z=>by rw[d]at z;cases z⟩
 | false=>obtain⟨o,ho,c,d⟩:=x;exact⟨o,ho,λ v z=>by rw[d]at z;cases z⟩
theorem AK {t:Bool}(hh:A.handled=U5)(j a:Addr)(ne:a≠j)(arr:Array gL):Draws prog w A j [j,a] arr.size (λ i v=>arr[i]?=My v) (λ i h=>ItB t h j a i/\IsB t h a arr):=by
 cases t with
 | true=>exact HX hh j a ne arr
 | false=>exact Draws.list hh j a ne arr
def qN (t1 t2:Bool)(l1 l2:Addr)(h:Heap):Heap :=
 ((((h.push (qM t1 l1)).push (qM t2 l2)).push ⟨.type "tuple",U5,.seq #[.ref h.objs.size,.ref (h.objs.size+1)] 0,#[]⟩).push ⟨.type "tuple",U5,.seq #[.none,.none] 0,#[]⟩).push ⟨.type "zip",U5,.fields #[.none,.bool U7,.bool U7,.ref (h.objs.size+2),.ref (h.objs.size+3)],#[]⟩
theorem OC (t1 t2:Bool)(l1 l2:Addr)(xs ys:Array gL) :
  Meets (Builtin.«zip.__new__» ⟨[.type "zip",.ref l1,.ref l2],[]⟩) (λ _ R s=>IsB t1 s.heap l1 xs/\IsB t2 s.heap l2 ys/\R (.ok (.ret (.ref (s.heap.objs.size+4)))) {s with heap:=qN t1 t2 l1 l2 s.heap}) :=
 .of_wp λ prog w A R s h=>by
  obtain⟨hp,g,d,tk,os⟩:=s;obtain⟨hl1,hl2,h⟩:=h;have hsub:=sub_zip;have hL1:IsB t1 (Shared.heap ⟨hp,g,d,tk,os⟩) l1 xs:=hl1;have hL2:IsB t2 (Shared.heap ⟨hp.push (qM t1 l1),g,d,tk,os⟩) l2 ys:=IsB.push hl2 _
  wp_walk using M8 hL1,M8 hL2
  refine⟨_,rfl,?_⟩;unfold qN at h;simp only[cH]at h ⊢;exact h
end
end Zp
namespace L2
open PySem PySem.Spec PyProof.Rows Zp
section
variable {X:Cx}{pins:gO}{σ:St}{H:Hp}{s:gM}{h':Heap}
theorem Inv.AL {t':Nat}{fp:List Addr}(I:Inv X pins σ H s)(k:∀ b o,b∉fp->s.heap.get? b=My o->h'.get? b=My o)(hf:∀ b∈fp,vO X pins H b):Inv X pins σ H {s with heap:=h',toks:=t'}:=by
 have nit:∀ b u,H b=My u->b∉fp:=λ b u e z=>by rw[(hf b z).1]at e;cases e
 refine I.step (g':=s.gens) (d':=s.drawn) (ch:=fp) (λ b hb=>⟨(hf b hb).2.2.2.1,(hf b hb).2.1,(hf b hb).2.2.2.2.1,(hf b hb).2.2.2.2.2⟩) (λ b o _ _ hc e _=>k b o hc e) (λ b o _ _ hc e _=>⟨o.slots,k b o hc e⟩) (λ _ _ _ _ n=>n)
  (λ b o hc e=>⟨o,k b o hc e⟩) (λ _ _ e=>e) (λ _ _ _ e=>e) (λ b ps e=>⟨#[],by rw[e];simp⟩) (λ m hm=>?_) (λ b u e=>?_) I.bare
 ·obtain⟨o,es,ep,ho,r⟩:=hm;exact⟨o,es,ep,k _ o (λ z=>(hf _ z).2.1 rfl) ho,r⟩
 ·refine(I.hok b u e).wM (λ c v hc q=>k c v ?_ q) (λ _ q=>q) λ _ _ q=>q
  rcases hc with z | z
  ·rw[z];exact nit b u e
  ·exact nit c _ z
theorem Inv.uU {t:Bool}{a:Addr}{xs:List V}(I:Inv X pins σ H s)(h:SqB t X.K H a xs):∃ its:List gL,Vals xs its/\IsB t s.heap a its.toArray/\xs.length<=sizeLine:=by
 cases t with
 | true=>obtain⟨its,r,p,z⟩:=I.tuple h;exact⟨its,r,p,z⟩
 | false=>obtain⟨its,r,p,z⟩:=I.list h;exact⟨its,r,p.isList,z⟩
theorem Inv.Cd {t:Bool}{a:Addr}{xs ys:List V}(I:Inv X pins σ H s)(h:SqB t X.K H a xs)(h':SqB t X.K H a ys):xs=ys:=by
 cases t with
 | true=>exact I.uH h h'
 | false=>exact I.BM h h'
theorem ItB.cls {t:Bool}{h:Heap}{j a:Addr}{k:Nat}(x:ItB t h j a k):∃ o,h.get? j=My o/\o.cls≠.type "tuple"/\o.cls≠.type "list":=by
 cases t with
 | true=>obtain⟨o,ho,c,d⟩:=x;exact⟨o,ho,by rw[c];decide,by rw[c];decide⟩
 | false=>obtain⟨o,ho,c,d⟩:=x;exact⟨o,ho,by rw[c];decide,by rw[c];decide⟩
def Itz (t1 t2:Bool)(K:gK)(a b:Addr):It :=
  ⟨λ i H=>∃ xs ys,SqB t1 K H a xs/\SqB t2 K H b ys/\i<xs.length/\i<ys.length,
   λ i H v H'=>∃ p x y,v=.ref p/\H p=U5/\H'=upd H p (.tup [x,y])/\(∀ xs,SqB t1 K H a xs->xs[i]?=My x)/\(∀ ys,SqB t2 K H b ys->ys[i]?=My y),
   λ i H=>∃ xs ys,SqB t1 K H a xs/\SqB t2 K H b ys/\(i=xs.length\/(i<xs.length/\i=ys.length))⟩
def tnz (t1 t2:Bool)(a b z T O i j:Addr)(k:Nat)(h:Heap):Prop:=IsZip h z T O .none/\IsPair h T (.ref i) (.ref j)/\(∃ x y,IsPair h O x y)/\ItB t1 h i a k/\ItB t2 h j b k
theorem QY (z T O i j:Addr):z∈[z,T,O,i,j]/\T∈[z,T,O,i,j]/\O∈[z,T,O,i,j]/\i∈[z,T,O,i,j]/\j∈[z,T,O,i,j]:=by simp
theorem M9 {z T O i j a b:Addr}(Tz:T≠z)(Oz:O≠z)(TO:T≠O)(iz:i≠z)(jz:j≠z)(Ti:T≠i)(Tj:T≠j)(Oi:O≠i)(Oj:O≠j)(ij:i≠j)(az:a≠z)(bz:b≠z)(aO:a≠O)(bO:b≠O)(aj:a≠j)(bi:b≠i):Ap z T O i j [i,a] [j,b] :=
 ⟨Tz,Oz,TO,iz,jz,Ti,Tj,Oi,Oj,ij,by simp[aZ iz,aZ az],by simp[aZ jz,aZ bz],by simp[Oi,aZ aO],by simp[Oj,aZ bO],by simp[aZ ij,aZ aj],by simp[ij,aZ bi]⟩
theorem AM {X:Cx}{pins:gO}{σ:St}{H:Hp}{s:gM}{fp:List Addr}(I:Inv X pins σ H s)(hf:∀ q∈fp,vO X pins H q){t:Bool}{c:Addr}{zs:List V}(hs:SqB t X.K H c zs)(q:Addr)(hq:q∈fp):c≠q:=by
 intro e;have hn:=(hf q hq).1;have hnk:X.K.lookup q=U5:=by
  cases hkq:X.K.lookup q with
  | none=>rfl
  | some oo =>
   have hb:=I.ok.mod.kin q oo hkq;exfalso;rcases (hf q hq).2.2.2.1 with hx | hx
   ·exact I.ok.Dj q oo hb hx
   ·exact aV _ (aG (av hb) (bD I.ok.bsz hx))
 rw[e]at hs;cases t with
 | true =>
  rcases hs with (r | ⟨_,r⟩) | ⟨oo,_,_,r,_⟩
  ·rw[hn]at r;cases r
  ·rw[hn]at r;cases r
  ·rw[hnk]at r;cases r
 | false =>
  rcases hs with (r | ⟨_,r⟩) | ⟨oo,_,_,r,_⟩
  ·rw[hn]at r;cases r
  ·rw[hn]at r;cases r
  ·rw[hnk]at r;cases r
theorem HY {P:Program}{w:World}{K:gK}{elts:List Expr}{kk:Nat}{ps:Pos}(t1 t2:Bool)(a b z T O i j:Addr)(Tz:T≠z)(Oz:O≠z)(TO:T≠O)(iz:i≠z)(jz:j≠z)(Ti:T≠i)(Tj:T≠j)(Oi:O≠i)(Oj:O≠j)(ij:i≠j) :
  Turn P w K (.Tuple elts kk ps) (Itz t1 t2 K a b) [z,T,O,i,j] z (tnz t1 t2 a b z T O i j) where
 mem:=by simp
 obj:=λ k h st c hc=>by
  obtain⟨hz,hT,⟨x,y,hO⟩,h1,h2⟩:=st;simp only[aD,bg,or_false]at hc;rcases hc with rfl | rfl | rfl | rfl | rfl
  ·exact⟨_,hz,λ v q=>by cases q⟩
  ·exact⟨_,hT,λ v q=>by cases q⟩
  ·exact⟨_,hO,λ v q=>by cases q⟩
  ·exact h1.obj
  ·exact h2.obj
 keep:=λ k h h' st kp=>by obtain⟨hz,hT,⟨x,y,hO⟩,h1,h2⟩:=st;exact⟨kp z (by simp) _ hz,kp T (by simp) _ hT,⟨x,y,kp O (by simp) _ hO⟩,h1.keep λ o e=>kp i (by simp) o e,h2.keep λ o e=>kp j (by simp) o e⟩
 item:=by
  intro X hP hw hK hc k pins s σ H E I hf st hg;subst hP hw hK;obtain⟨xs,ys,hq1,hq2,hk1,hk2⟩:=hg;obtain⟨hz,hT,⟨x0,y0,hO⟩,h1,h2⟩:=st;obtain⟨its1,rv1,p1,_⟩:=I.uU hq1;obtain⟨its2,rv2,p2,_⟩:=I.uU hq2;obtain⟨oi,gi,ci,ci'⟩:=ItB.cls (t:=t1) (h:=s.heap) (j:=i) (a:=a) (k:=k) h1;obtain⟨oj,gj,cj,cj'⟩:=ItB.cls (t:=t2) (h:=s.heap) (j:=j) (a:=b) (k:=k) h2;have hl1:=rv1.length;have hl2:=rv2.length;have m5:=QY z T O i j;have na:=AM I hf hq1;have nb:=AM I hf hq2;have ap:=M9 Tz Oz TO iz jz Ti Tj Oi Oj ij (na _ m5.1) (nb _ m5.1) (na _ m5.2.2.1) (nb _ m5.2.2.1) (na _ m5.2.2.2.2) (nb _ m5.2.2.2.1);refine QV ap (AK (prog:=X.prog) (w:=X.w) (A:=X.A.in1) (t:=t1) (show X.A.in1.handled=U5 from I.ok.hd hc) i a (na i m5.2.2.2.1) its1.toArray) (AK (prog:=X.prog) (w:=X.w) (A:=X.A.in1) (t:=t2) (show X.A.in1.handled=U5 from I.ok.hd hc) j b (nb j m5.2.2.2.2) its2.toArray) (by simp;lia) (by simp;lia) hz hT hO ⟨h1,p1⟩ ⟨h2,p2⟩ ?_;intro h' N tk x y px py hN hz' hO' s1 s2 hNp kp;refine⟨.ref N,rfl,?_⟩;have I1:Inv X pins σ H {s with heap:=h',toks:=tk}:=I.AL (fp:=[z,T,O,i,j]) (λ c o hc' e=>kp c o (λ q=>hc' (q▸m5.1)) (λ q=>hc' (q▸m5.2.2.1)) (λ q=>hc' (q▸m5.2.2.2.1)) (λ q=>hc' (q▸m5.2.2.2.2)) e) hf;have hxk:xs[k]?=My (xs[k]'hk1):=by simp[hk1]
  have hyk:ys[k]?=My (ys[k]'hk2):=by simp[hk2]
  obtain⟨u1,e1,r1⟩:=rv1.get hxk;obtain⟨u2,e2,r2⟩:=rv2.get hyk;have px':its1[k]?=My x:=by simpa using px
  have py':its2[k]?=My y:=by simpa using py
  rw[e1]at px';cases px';rw[e2]at py';cases py';have hNn:H N=U5:=I.hok.fresh hN;have I2:Inv X pins σ (upd H N (.tup [xs[k],ys[k]])) {s with heap:=h',toks:=tk}:=I1.B_ hNn (bD I.sz hN) (bU (aG I.lt hN)) (λ x c e q=>by
    obtain⟨v,o,ho,_⟩:=I.cell x c e;exact absurd (av ho) (by rw[q];exact fU.mpr hN)) (λ p hp q=>absurd (av (I.pin p hp).1) (by rw[q];exact fU.mpr hN))
   ⟨⟨by rw[sizeLine_eq];simp,_,hNp,rfl⟩,[x,y],.cons r1 (.cons r2 .nil),⟨_,hNp,rfl,0,rfl⟩⟩
  have nfp:∀ q∈[z,T,O,i,j],q≠N:=λ q hq e=>by
   have:q<s.heap.objs.size:=by
    simp only[aD,bg,or_false]at hq;rcases hq with rfl | rfl | rfl | rfl | rfl
    ·exact av hz
    ·exact av hT
    ·exact av hO
    ·exact av gi
    ·exact av gj
   rw[e]at this;exact aV _ (aG this hN)
  have hf2:∀ q∈[z,T,O,i,j],vO X pins (upd H N (.tup [xs[k],ys[k]])) q:=λ q hq=>⟨by rw[hU (nfp q hq)];exact(hf q hq).1,(hf q hq).2⟩;refine wpAny_letOwnedTupleGo_zip hz' λ h2' hz2 sb=>?_;refine⟨.ref N,_,I2.AL (t':=tk) (fp:=[z,T,O,i,j]) (λ c o hc' e=>sb.extBut _ _ (λ q=>hc' (by simp[q])) e) hf2,rfl,⟨N,_,_,rfl,hNn,rfl,λ zs hs=>?_,λ zs hs=>?_⟩,⟨hz2,sb.extBut _ _ Tz (kp T _ Tz TO Ti Tj hT),⟨_,_,sb.extBut _ _ Oz hO'⟩,s1.1.keep λ o e=>sb.extBut _ _ iz e,s2.1.keep λ o e=>sb.extBut _ _ jz e⟩,λ q hq=>(hf2 q hq).1⟩
  ·rw[I.Cd hs hq1];exact hxk
  ·rw[I.Cd hs hq2];exact hyk
 done:=by intro X hP hw hK hc k pins s σ H E I hf st hg;subst hP hw hK;obtain⟨xs,ys,hq1,hq2,hk⟩:=hg;obtain⟨hz,hT,⟨x0,y0,hO⟩,h1,h2⟩:=st;obtain⟨its1,rv1,p1,_⟩:=I.uU hq1;obtain⟨its2,rv2,p2,_⟩:=I.uU hq2;have hl1:=rv1.length;have hl2:=rv2.length;have m5:=QY z T O i j;have na:=AM I hf hq1;have nb:=AM I hf hq2;have ap:=M9 Tz Oz TO iz jz Ti Tj Oi Oj ij (na _ m5.1) (nb _ m5.1) (na _ m5.2.2.1) (nb _ m5.2.2.1) (na _ m5.2.2.2.2) (nb _ m5.2.2.2.1);refine QX ap (AK (prog:=X.prog) (w:=X.w) (A:=X.A.in1) (t:=t1) (show X.A.in1.handled=U5 from I.ok.hd hc) i a (na i m5.2.2.2.1) its1.toArray) (AK (prog:=X.prog) (w:=X.w) (A:=X.A.in1) (t:=t2) (show X.A.in1.handled=U5 from I.ok.hd hc) j b (nb j m5.2.2.2.2) its2.toArray) (k:=k) (by simp;lia) hz hT hO ⟨h1,p1⟩ ⟨h2,p2⟩ ?_;intro h' tk kp;exact⟨rfl,I.AL (fp:=[z,T,O,i,j]) (λ c o hc' e=>kp c o (λ q=>hc' (q▸m5.1)) (λ q=>hc' (q▸m5.2.2.1)) (λ q=>hc' (q▸m5.2.2.2.1)) (λ q=>hc' (q▸m5.2.2.2.2)) e) hf⟩
 self:=λ _ _ _ _ _ st h=>wpAny_pyIter_zip st.1 h
end
def QZ (K:gK)(J:It)(H:Hp)(ds:List Dt):Prop:=∀ H',g6 H H'->(∀ (i:Nat) d,ds[i]?=My d->J.go i H'/\∀ x H'',J.yld i H' x H''->g6 H' H''/\Is K H'' x d)/\J.stop ds.length H'
def iD (K:gK)(g:DE->gJ (List Dt)):TI:=λ σ H R=>∃ δ ds,Sat K H σ δ/\g δ=My ds/\∀ J H',g6 H H'->QZ K J H' ds->R J H'
section
variable {X:Cx}{e a b c:Expr}{es:List Expr}{pos:Pos}{tg iter:Expr}
theorem PI.of {t t':TI}(h:PI X tg iter t)(w:∀ σ H Q,t' σ H Q->t σ H Q):PI X tg iter t':=λ pins s σ H Q I q=>h pins s σ H Q I (w σ H Q q)
def xA:Dt->gJ (List Dt)
 | .tup ds=>My ds
 | _=>U5
def E9:Dt->gJ (List Dt)
 | .lst ds=>My ds
 | _=>U5
theorem uV {d:Dt}{ds:List Dt}(h:xA d=My ds):d=.tup ds:=by cases d<;>simp[xA]at h;rw[h]
theorem zJ {d:Dt}{ds:List Dt}(h:E9 d=My ds):d=.lst ds:=by cases d<;>simp[E9]at h;rw[h]
def gI (f:Dt->gJ (List Dt))(g:DE->gJ Dt):DE->gJ (List Dt):=λ δ=>(g δ).bind f
theorem OD {g:DE->gJ Dt}(h:PD X e g):PI X tg e (iD X.K (gI xA g)):=(Hi h).of λ σ H R hz1=>by obtain⟨δ,ds,S,q,k⟩:=hz1;obtain⟨x,e1,e2⟩:=gU q;have e2:=uV e2;subst e2;refine⟨δ,_,S,e1,λ v H1 s1 i1=>?_⟩;obtain⟨a,xs,rfl,hq,is⟩:=i1.iI;refine⟨a,rfl,⟨xs,hq⟩,k _ H1 s1 λ H2 s2=>⟨λ i d hd=>?_,⟨xs,s2.uT hq,by rw[is.length];exact aw _⟩⟩⟩;obtain⟨v,hv,iv⟩:=is.get hd;exact⟨⟨xs,v,s2.uT hq,hv⟩,λ x H3 hz2=>by obtain⟨e3,y⟩:=hz2;subst e3;have:=y xs (s2.uT hq);rw[hv]at this;cases this;exact⟨g6.refl _,iv.ext s2⟩⟩
theorem OE {g:DE->gJ Dt}(h:PD X e g):PI X tg e (iD X.K (gI E9 g)):=(Ak h).of λ σ H R hz3=>by obtain⟨δ,ds,S,q,k⟩:=hz3;obtain⟨x,e1,e2⟩:=gU q;have e2:=zJ e2;subst e2;refine⟨δ,_,S,e1,λ v H1 s1 i1=>?_⟩;obtain⟨a,xs,rfl,hq,is⟩:=i1.lst_inv;refine⟨a,rfl,⟨xs,SqL.of hq⟩,k _ H1 s1 λ H2 s2=>⟨λ i d hd=>?_,⟨xs,s2.seq (SqL.of hq),by rw[is.length];exact aw _⟩⟩⟩;obtain⟨v,hv,iv⟩:=is.get hd;exact⟨⟨xs,v,s2.seq (SqL.of hq),hv⟩,λ x H3 hz4=>by obtain⟨e3,y⟩:=hz4;subst e3;have:=y xs (s2.seq (SqL.of hq));rw[hv]at this;cases this;exact⟨g6.refl _,iv.ext s2⟩⟩
def oE:List Dt->gJ (List Dt)
 | [.int j]=>if j<=1000000/\-1000000<=j then My ((U8 j.toNat).map λ(i:Nat)=>.int i) else U5
 | _=>U5
theorem HZ {x ds:List Dt}(e:oE x=My ds):∃ j:Int,x=[.int j]/\(j<=1000000/\-1000000<=j)/\ds=(U8 j.toNat).map λ(i:Nat)=>Dt.int i:=by
 cases x with
 | nil=>cases e
 | cons y r=>cases r with
  | cons _ _=>cases y<;>cases e
  | nil=>cases y with
   | int j =>
    have e:(if j<=1000000/\-1000000<=j then My ((U8 j.toNat).map λ(i:Nat)=>Dt.int i) else U5)=My ds:=e;by_cases hj:j<=1000000/\-1000000<=j
    ·rw[ai hj]at e;exact⟨j,rfl,hj,(ao e).symm⟩
    ·rw[au hj]at e;cases e
   | _=>cases e
theorem OF {K:gK}{H:Hp}(lo:Int)(n:Nat):QZ K (Itr lo n) H ((U8 n).map λ(k:Nat)=>.int (lo+k)):=λ H1 s1=>by
 refine⟨λ i d hd=>?_,by show n<=_;simp⟩;rw[aH]at hd;by_cases hi:i<n
 ·rw[cL hi]at hd;cases hd;exact⟨hi,λ x H2 ⟨e1,e2⟩=>by subst e1;subst e2;exact⟨g6.refl _,.int _⟩⟩
 ·rw[cA (by simpa using hi)]at hd;cases hd
theorem Gg {gs:DE->gJ (List Dt)}{p:Pos}(hm:X.mg "range"=U5)(ha:PDs X [a] gs)(hg:Gl X "range":=by rfl)(hs:starEach [a] X.env=[(U7,eval a X.env)]:=by rfl):PI X tg (.Call (.Name "range" p) [a] [] pos) (iD X.K (λ δ=>(gs δ).bind oE)) :=
 (nD hg hm ha hs).of λ σ H R hz5=>by
  obtain⟨δ,ds,S,q,k⟩:=hz5;obtain⟨x,e1,e2⟩:=gU q;obtain⟨j,rfl,hj,rfl⟩:=HZ e2;refine⟨δ,_,S,e1,λ vs H1 s1 i1=>?_⟩;cases i1 with
  | cons i1 i2 =>cases i2;cases i1;refine⟨j,rfl,by lia,by lia,k _ H1 s1 ?_⟩;have:=OF (K:=X.K) (H:=H1) 0 j.toNat;simpa using this
def itB (t:Bool):Dt->gJ (List Dt):=match t with
 | true=>xA
 | false=>E9
theorem E_ {K:gK}{H:Hp}{v:V}{t:Bool}{d:Dt}{ds:List Dt}(h:itB t d=My ds)(i:Is K H v d):∃ a xs,v=.ref a/\SqB t K H a xs/\Iss K H xs ds:=by
 cases t with
 | true=>rw[uV h]at i;exact i.iI
 | false =>rw[zJ h]at i;obtain⟨a,xs,e,q,r⟩:=i.lst_inv;exact⟨a,xs,e,SqL.of q,r⟩
theorem g6.uU {K:gK}{H H':Hp}{t:Bool}{a:Addr}{xs:List V}(e:g6 H H')(h:SqB t K H a xs):SqB t K H' a xs:=by
 cases t with
 | true=>exact e.uT h
 | false=>exact e.seq h
def H_ (t1 t2:Bool):List Dt->gJ (List Dt)
 | [x,y]=>(itB t1 x).bind λ xs=>(itB t2 y).map λ ys=>(xs.zip ys).map λ(p,q)=>.tup [p,q]
 | _=>U5
theorem nn {a b:Nat}(h:a≠b):@Ne Addr a b:=h
theorem Ia (t1 t2:Bool)(x y:Addr)(h:Heap):IsZip (qN t1 t2 x y h) (h.objs.size+4) (h.objs.size+2) (h.objs.size+3) .none/\IsPair (qN t1 t2 x y h) (h.objs.size+2) (.ref h.objs.size) (.ref (h.objs.size+1))/\IsPair (qN t1 t2 x y h) (h.objs.size+3) .none .none /\
  ItB t1 (qN t1 t2 x y h) h.objs.size x 0/\ItB t2 (qN t1 t2 x y h) (h.objs.size+1) y 0/\∀ b u,h.get? b=My u->(qN t1 t2 x y h).get? b=My u:=by
 have fr:∀ t a,(qM t a).isFreed=U7:=λ t a=>by cases t<;>rfl
 have up:∀ (o1:Obj) (g:Heap) (n:Nat),g.objs.size=n->o1.isFreed=U7->(g.push o1).get? n=My o1:=λ o1 g n e f=>by subst e;exact aF _ f
 unfold qN;generalize hn:h.objs.size=n;have z1:(h.push (qM t1 x)).objs.size=n+1:=by rw[cH,hn]
 have z2:((h.push (qM t1 x)).push (qM t2 y)).objs.size=n+2:=by rw[cH,z1]
 refine⟨?_,?_,?_,?_,?_,?_⟩
 ·refine up _ _ _ ?_ rfl;rw[cH,cH,z2]
 ·refine ag _ (ag _ (up _ _ _ ?_ rfl));rw[z2]
 ·refine ag _ (up _ _ _ ?_ rfl);rw[cH,z2]
 ·have g:=ag (⟨.type "zip",U5,.fields #[.none,.bool U7,.bool U7,.ref (n+2),.ref (n+3)],#[]⟩:Obj) (ag (⟨.type "tuple",U5,.seq #[.none,.none] 0,#[]⟩:Obj) (ag (⟨.type "tuple",U5,.seq #[.ref n,.ref (n+1)] 0,#[]⟩:Obj) (ag (qM t2 y) (up (qM t1 x) h n hn (fr _ _)))))
  cases t1 with
  | true=>exact⟨_,g,rfl,rfl⟩
  | false=>exact⟨_,g,rfl,rfl⟩
 ·have g:=ag (⟨.type "zip",U5,.fields #[.none,.bool U7,.bool U7,.ref (n+2),.ref (n+3)],#[]⟩:Obj) (ag (⟨.type "tuple",U5,.seq #[.none,.none] 0,#[]⟩:Obj) (ag (⟨.type "tuple",U5,.seq #[.ref n,.ref (n+1)] 0,#[]⟩:Obj) (up (qM t2 y) _ (n+1) z1 (fr _ _))))
  cases t2 with
  | true=>exact⟨_,g,rfl,rfl⟩
  | false=>exact⟨_,g,rfl,rfl⟩
 ·exact λ b u e=>ag _ (ag _ (ag _ (ag _ (ag _ e))))
theorem OG {ta:TA}{elts:List Expr}{kk:Nat}{ps p:Pos}(t1 t2:Bool)(hg:Gl X "zip")(hm:X.mg "zip"=U5)(ha:PA X [a,b] ta)(hs:starEach [a,b] X.env=[(U7,eval a X.env),(U7,eval b X.env)]:=by rfl)(hs2:starEach [b] X.env=[(U7,eval b X.env)]:=by rfl)
  (hv:bootBuiltins "zip"=My (.type "zip"):=by rfl) :
  PI X (.Tuple elts kk ps) (.Call (.Name "zip" p) [a,b] [] pos) (λ σ H R=>ta σ H λ vs H1=>∃ x y,vs=[.ref x,.ref y]/\(∃ xs,SqB t1 X.K H1 x xs)/\(∃ ys,SqB t2 X.K H1 y ys)/\R (Itz t1 t2 X.K x y) H1):=by
 intro pins s σ H R I h;refine Call_ (uG I hg hm hv (cW (thn (ha pos pins s σ H _ I h) λ us s1 ⟨vs,H1,I1,r1,q1⟩=>?_) (by rw[hs,hs2]) (by rw[hs2];rfl)));obtain⟨x,y,rfl,⟨xs,hx⟩,⟨ys,hy⟩,q⟩:=q1;obtain⟨u,u',rfl,ru,ru'⟩:=vals2 r1;cases ru;cases ru';obtain⟨its1,_,p1,_⟩:=I1.uU hx;obtain⟨its2,_,p2,_⟩:=I1.uU hy;refine callType_new F.called_zip (by decide) (F.typeCall_zip_2 _ _) (F.newCall_zip_2 _ _) (λ obj=>F.args_object_init_3 obj _ _) F.entry_zip_new (OC t1 t2 x y its1.toArray its2.toArray) ⟨p1,p2,?_⟩;obtain⟨k1,k2,k3,k4,k5,k6⟩:=Ia t1 t2 x y s1.heap;show _/\_;refine⟨⟨_,k1,rfl⟩,wpAny_pyIter_zip (s:={s1 with heap:=qN t1 t2 x y s1.heap}) (z:=s1.heap.objs.size+4) k1 ?_⟩;have I2:Inv X pins σ H1 {s1 with heap:=qN t1 t2 x y s1.heap}:=I1.kept (t':=s1.toks) k6;refine⟨_,[s1.heap.objs.size+4,s1.heap.objs.size+2,s1.heap.objs.size+3,s1.heap.objs.size,s1.heap.objs.size+1],_,_,H1,rfl,I2,HY t1 t2 x y (s1.heap.objs.size+4) (s1.heap.objs.size+2) (s1.heap.objs.size+3) s1.heap.objs.size (s1.heap.objs.size+1) (nn (by lia)) (nn (by lia)) (nn (by lia)) (nn (by lia)) (nn (by lia)) (nn (by lia)) (nn (by lia)) (nn (by lia)) (nn (by lia)) (nn (by lia)),⟨k1,k2,⟨_,_,k3⟩,k4,k5⟩,λ c hc=>?_,q⟩;have hc:s1.heap.objs.size<=c:=by
  simp only[aD,bg,or_false]at hc;rcases hc with rfl | rfl | rfl | rfl | rfl
  ·exact eB _ _
  ·exact eB _ _
  ·exact eB _ _
  ·exact aw _
  ·exact eB _ _
 exact I1.Ku hc (I1.hok.fresh hc)
theorem OH {gs:DE->gJ (List Dt)}{elts:List Expr}{kk:Nat}{ps p:Pos}(t1 t2:Bool)(hm:X.mg "zip"=U5)(ha:PDs X [a,b] gs)(hg:Gl X "zip":=by rfl)(hs:starEach [a,b] X.env=[(U7,eval a X.env),(U7,eval b X.env)]:=by rfl)(hs2:starEach [b] X.env=[(U7,eval b X.env)]:=by rfl)
  (hv:bootBuiltins "zip"=My (.type "zip"):=by rfl):PI X (.Tuple elts kk ps) (.Call (.Name "zip" p) [a,b] [] pos) (iD X.K (λ δ=>(gs δ).bind (H_ t1 t2))) :=
 (OG t1 t2 hg hm ha hs hs2 hv).of λ σ H R hz7=>by
  obtain⟨δ,ds,S,q,k⟩:=hz7;obtain⟨x,e1,e2⟩:=gU q;match x,e2 with
  | [x,y],e2 =>
   obtain⟨xs,f1,e2⟩:=gU (show(itB t1 x).bind _=_ from e2);obtain⟨ys,f2,e2⟩:=iA e2;subst e2;refine⟨δ,_,S,e1,λ vs H1 s1 i1=>?_⟩;cases i1 with
   | cons i1 i2 =>
    cases i2 with
    | cons i2 i3 =>
     cases i3;obtain⟨c,vs1,rfl,q1,is1⟩:=E_ f1 i1;obtain⟨d,vs2,rfl,q2,is2⟩:=E_ f2 i2;refine⟨c,d,rfl,⟨_,q1⟩,⟨_,q2⟩,k _ H1 s1 λ H2 s2=>⟨λ i dd hd=>?_,⟨vs1,vs2,s2.uU q1,s2.uU q2,?_⟩⟩⟩
     ·rw[aH]at hd
      cases hz:(xs.zip ys)[i]? with
      | none=>rw[hz]at hd;cases hd
      | some pr =>rw[hz]at hd;obtain⟨pa,pb⟩:=pr;cases hd;obtain⟨h1,h2⟩:=fV.mp hz;obtain⟨v1,g1,j1⟩:=is1.get h1;obtain⟨v2,g2,j2⟩:=is2.get h2;refine⟨⟨vs1,vs2,s2.uU q1,s2.uU q2,(aN.mp g1).1,(aN.mp g2).1⟩,?_⟩;rintro v H3 ⟨p,a1,a2,rfl,hp,rfl,r1,r2⟩;have w1:=r1 vs1 (s2.uU q1);have w2:=r2 vs2 (s2.uU q2);rw[g1]at w1;cases w1;rw[g2]at w2;cases w2;exact⟨g6.upd hp,.tup (SqT.of gZ) (.cons ((j1.ext s2).ext (g6.upd hp)) (.cons ((j2.ext s2).ext (g6.upd hp)) .nil))⟩
     ·have l1:=is1.length;have l2:=is2.length;simp only[ah,List.length_zip];lia
end
def GD (K:gK)(g:TG)(gg:Dt->DE->gJ DE):Prop:=∀ H x d σ δ δ' (Q:St->Hp->Prop),Is K H x d->Sat K H σ δ->gg d δ=My δ'->(∀ σ',Sat K H σ' δ'->Q σ' H)->g x σ H Q
def ggN (i:Nat):Dt->DE->gJ DE:=λ d δ=>My (δ.set i (My d))
def nc (i j:Nat):Dt->DE->gJ DE:=λ d δ=>match d with
 | .tup [x,y]=>My ((δ.set i (My x)).set j (My y))
 | _=>U5
theorem Ib {i j:Nat}{d:Dt}{δ δ':DE}(e:nc i j d δ=My δ'):∃ x y,d=.tup [x,y]/\δ'=(δ.set i (My x)).set j (My y):=by
 cases d with
 | tup l=>cases l with
  | nil=>cases e
  | cons x l=>cases l with
   | nil=>cases e
   | cons y l=>cases l with
    | nil=>exact⟨x,y,rfl,(ao e).symm⟩
    | cons _ _=>cases e
 | _=>cases e
theorem i9 {K:gK}{i:Nat}:GD K (iW i) (ggN i):=λ H x d σ δ δ' Q h S e q=>by cases e;exact q _ (S.set h)
theorem l8 {K:gK}{i j:Nat}:GD K (Hc K 2 (vg (iW i) (vg (iW j) Hb))) (nc i j):=λ H x d σ δ δ' Q h S e q=>by
 obtain⟨d1,d2,rfl,rfl⟩:=Ib e;obtain⟨a,xs,rfl,hq,is⟩:=h.iI;cases is with
 | cons i1 i2 =>
  cases i2 with
  | cons i2 i3 =>cases i3;exact⟨a,_,rfl,hq,rfl,_,_,rfl,_,_,rfl,rfl,q _ ((S.set i1).set i2)⟩
def vv (own:List Str)(ix:List Nat)(δ:DE):DE:=own.map (λ _=>U5)++ix.map λ i=>(δ[i]?).getD U5
def rX (gg:Dt->DE->gJ DE)(gt:DE->gJ Bool)(ge:DE->gJ Dt)(δc:DE):List Dt->gJ (List Dt)
 | []=>My []
 | d::r=>(gg d δc).bind λ δ'=>(gt δ').bind λ b=>if b=U6 then (ge δ').bind λ y=>(rX gg gt ge δc r).map (y::·) else rX gg gt ge δc r
def gLC (own:List Str)(ix:List Nat)(gi:DE->gJ (List Dt))(gg:Dt->DE->gJ DE)(gt:DE->gJ Bool)(ge:DE->gJ Dt):DE->gJ Dt :=
 λ δ=>(gi δ).bind λ ds=>if ds.length<=1000 then (rX gg gt ge (vv own ix δ) ds).map .lst else U5
def jd:DE->gJ Bool:=λ _=>My U6
section
variable {X:Cx}{e a b c:Expr}{es:List Expr}{pos:Pos}{tg iter elt:Expr}{ifs:List Expr}{own fr:List Str}{ix:List Nat}{scope:Scope}{g:TG}{gg:Dt->DE->gJ DE}{gi:DE->gJ (List Dt)}{gt:DE->gJ Bool}{ge:DE->gJ Dt}
theorem j_:PF X [] (tDT X.K jd):=λ pins s σ H Q I ⟨δ,b,S,e,q⟩=>by cases e;exact DR pins s σ H Q I (q H (g6.refl H))
theorem AN (h:PDT X c gt):PF X [c] (tDT X.K gt):=Ow h
set_option tactic.hygienic true in
theorem Ic {K:gK}(hgd:GD K g gg)(σ:St)(H:Hp)(Q:VK)(h:tD K (gLC own ix gi gg gt ge) σ H Q):tLC own ix (iD K gi) g (tDT K gt) (tD K ge) σ H Q:=by
 obtain⟨δ,d,S,e,q⟩:=h;obtain⟨ds,e1,e⟩:=gU e;split at e
 ·rename_i hlen
  obtain⟨rs,e2,e⟩:=iA e;subst e;refine⟨δ,ds,S,e1,λ J H1 s1 ok=>?_⟩;refine⟨λ i m ys H'=>m=ds.length-i/\i<=ds.length/\g6 H1 H'/\ys.length<=i/\∃ us vs,Iss K H' ys us/\rX gg gt ge (vv own ix δ) (ds.drop i)=My vs/\us++vs=rs,⟨_,rfl,aT _,g6.refl _,aw _,[],rs,.nil,by simpa using e2,rfl⟩,?_⟩;rintro i m ys H' ⟨rfl,hi,s2,hy,us,vs,is,e3,e4⟩;obtain⟨items,stop⟩:=ok H' s2;by_cases hlt:i<ds.length
  ·right
   have hdi:ds[i]?=My ds[i]:=by simp[hlt]
   obtain⟨go,yld⟩:=items i _ hdi;refine⟨go,by have:=uK;rw[sizeLine_eq];lia,λ x H'' hyl=>?_⟩;obtain⟨s3,ix3⟩:=yld x H'' hyl;rw[eG hlt]at e3;obtain⟨δ',f1,e3⟩:=gU (show(gg ds[i] (vv own ix δ)).bind _=_ from e3);obtain⟨k,f2,e3⟩:=gU e3;have S':Sat K H'' (kH own ix σ) (vv own ix δ):=(S.ext ((s1.trans s2).trans s3)).comp;refine hgd H'' x ds[i] _ _ δ' _ ix3 S' f1 λ σ' Sσ=>⟨δ',k,Sσ,f2,λ H3 s4=>?_⟩;cases k with
   | true =>rw[ai rfl]at e3 ⊢;obtain⟨y,f3,e3⟩:=gU e3;obtain⟨r,f4,e3⟩:=iA e3;subst e3;refine⟨δ',y,Sσ.ext s4,f3,λ v H4 s5 iv=>⟨ds.length-(i+1),by lia,rfl,hlt,((s2.trans s3).trans s4).trans s5,by simp;lia,us++[y],r,(is.ext ((s3.trans s4).trans s5)).snoc iv,f4,by rw[<-e4];simp⟩⟩
   | false =>rw[au ax]at e3 ⊢;exact⟨ds.length-(i+1),by lia,rfl,hlt,(s2.trans s3).trans s4,by lia,us,vs,is.ext (s3.trans s4),e3,e4⟩
  ·left
   have hi:i=ds.length:=by lia
   subst hi;rw[List.drop_length]at e3;cases e3;rw[bB]at e4;subst e4;exact⟨stop,λ p hp=>q _ _ ((s1.trans s2).trans (g6.upd hp)) (.lst gZ (is.ext (g6.upd hp)))⟩
 ·cases e
theorem oV (hc:X.calm=U6)(S:lY X scope own fr ix)(hi:PI X tg iter (iD X.K gi))(hg:∀ C s H fp,PG (X.comp (own++fr) scope C s H fp) tg g)(hgo:DS own.length g)(hgd:GD X.K g gg)
  (ht:∀ C s H fp,PF (X.comp (own++fr) scope C s H fp) ifs (tDT X.K gt)) (he:∀ C s H fp,PE (X.comp (own++fr) scope C s H fp) elt (tD X.K ge)) (hs:∀ x,foldedSetIterable iter X.env x=pure x:=by intro _;rfl) :
  PD X (.ListComp elt [⟨tg,iter,ifs,0⟩] scope pos) (gLC own ix gi gg gt ge):=(M3 hc S hi hg hgo ht he hs).of (Ic hgd)
inductive RD where
 | nx (δ:DE) | rt (d:Dt)
def Tn (K:gK)(D:Ends)(H:Hp):RD->Prop
 | .nx δ=>∀ σ,Sat K H σ δ->D.nx σ H
 | .rt d=>∀ v,Is K H v d->D.rt v H
def tDS (K:gK)(g:DE->gJ RD):TS:=λ D σ H=>∃ δ r,Sat K H σ δ/\g δ=My r/\∀ H',g6 H H'->Tn K D H' r
variable {st:Stmt}{rest sts:List Stmt}{gs gs':DE->gJ RD}{ga:DE->gJ Dt}
abbrev PDS (X:Cx)(st:Stmt)(g:DE->gJ RD):Prop:=PS X st (tDS X.K g)
abbrev Ce (X:Cx)(st:List Stmt)(g:DE->gJ RD):Prop:=PSs X st (tDS X.K g)
def jc (g g':DE->gJ RD):DE->gJ RD:=λ δ=>(g δ).bind λ r=>match r with
 | .nx δ'=>g' δ'
 | .rt d=>My (.rt d)
theorem jT:Ce X [] (λ δ=>My (.nx δ)):=o_.of λ D σ H ⟨δ,r,S,e,q⟩=>by cases e;exact q H (g6.refl H) σ S
theorem iq (h1:PDS X st gs)(h2:Ce X rest gs'):Ce X (st::rest) (jc gs gs'):=(g9 h1 h2).of λ D σ H hz1=>by
 obtain⟨δ,r,S,e,q⟩:=hz1;obtain⟨r1,e1,e⟩:=gU e;refine⟨δ,r1,S,e1,λ H1 s1=>?_⟩;cases r1 with
 | nx δ'=>exact λ σ' S'=>⟨δ',r,S',e,λ H2 s2=>q H2 (s1.trans s2)⟩
 | rt d=>cases e;exact q H1 s1
theorem ik (h1:PDS X st gs):Ce X [st] gs:=ji h1
def mL:DE->gJ RD:=λ δ=>My (.nx δ)
def jB (i:Nat)(g:DE->gJ Dt):DE->gJ RD:=λ δ=>(g δ).map λ d=>.nx (δ.set i (My d))
theorem jn {i:Nat}{x:Str}{pos':Pos}(hN:X.N.Nodup)(he:PD X e ga)(hi:X.N[i]?=My x:=by rfl)(hx:Loc X.env.scope x:=by trivial)(hs:swapsWith e (My (.Name x pos')) pos.line X.env=pure U7:=by rfl)(hf:X.fn x=U6\/X.env.scope.names.lookup x=My .local:=by trivial) :
  PDS X (.Assign [.Name x pos'] e pos) (jB i ga):=(iY hN hi hx he hs hf).of λ D σ H hz2=>by
 obtain⟨δ,r,S,e,q⟩:=hz2;obtain⟨d,e1,e⟩:=iA e;subst e;exact⟨δ,d,S,e1,λ v H1 s1 i1=>q H1 s1 _ ((S.ext s1).set i1)⟩
theorem Cf {i:Nat}{x:Str}{px spos:Pos}(hN:X.N.Nodup)(hc:X.calm=U6)(S:lY X scope own fr ix)(hi:PI X tg iter (iD X.K gi))(hg:∀ C s H fp,PG (X.comp (own++fr) scope C s H fp) tg g)(hgo:DS own.length g)(hgd:GD X.K g gg)
  (ht:∀ C s H fp,PF (X.comp (own++fr) scope C s H fp) ifs (tDT X.K gt)) (he:∀ C s H fp,PE (X.comp (own++fr) scope C s H fp) elt (tD X.K ge)) (hi':X.N[i]?=My x:=by rfl) (hx:Loc X.env.scope x:=by trivial)
  (hsw:swapsWith (.ListComp elt [⟨tg,iter,ifs,0⟩] scope pos) (My (.Name x px)) spos.line X.env=pure U6:=by rfl) (hf:X.fn x=U6\/X.env.scope.names.lookup x=My .local:=by trivial) (hs:∀ x,foldedSetIterable iter X.env x=pure x:=by intro _;rfl) :
  PDS X (.Assign [.Name x px] (.ListComp elt [⟨tg,iter,ifs,0⟩] scope pos) spos) (jB i (gLC own ix gi gg gt ge)):=(M4 hN hi' hx hc S hi hg hgo ht he hsw hf hs).of λ D σ H hz3=>by
 obtain⟨δ,r,S,e,q⟩:=hz3;obtain⟨d,e1,e⟩:=iA e;subst e;exact Ic hgd σ H _ ⟨δ,d,S,e1,λ v H1 s1 i1=>q H1 s1 _ ((S.ext s1).set i1)⟩
def yV (gg:Dt->DE->gJ DE)(g:DE->gJ Dt):DE->gJ RD:=λ δ=>(g δ).bind λ d=>(gg d δ).map .nx
theorem uW (he:PD X e ga)(hg:PG X tg g)(hgd:GD X.K g gg)(hs:swapsWithSole [tg] e pos.line X.env=pure U7:=by rfl)(hw:swappedStores [tg] e X.env=pure U5:=by rfl)
  (h1:(assignEach [tg] X.env).map (·.2)=[assign tg X.env]:=by rfl):PDS X (.Assign [tg] e pos) (yV gg ga):=(Hd he hg hs hw h1).of λ D σ H hz4=>by
 obtain⟨δ,r,S,e,q⟩:=hz4;obtain⟨d,e1,e⟩:=gU e;obtain⟨δ',e2,e⟩:=iA e;subst e;exact⟨δ,d,S,e1,λ v H1 s1 i1=>hgd H1 v d σ δ δ' _ i1 (S.ext s1) e2 λ σ' S'=>q H1 s1 σ' S'⟩
def kc (g:DE->gJ Dt):DE->gJ RD:=λ δ=>(g δ).map .rt
theorem iQ (he:PD X e ga):PDS X (.Return (My e) pos) (kc ga):=(lW he).of λ D σ H hz5=>by obtain⟨δ,r,S,e,q⟩:=hz5;obtain⟨d,e1,e⟩:=iA e;subst e;exact⟨δ,d,S,e1,λ v H1 s1 i1=>q H1 s1 v i1⟩
def nL (g:DE->gJ Dt):DE->gJ RD:=λ δ=>(g δ).map λ _=>.nx δ
def sF (gc:DE->gJ Bool)(g g':DE->gJ RD):DE->gJ RD:=λ δ=>(gc δ).bind λ k=>if k=U6 then g δ else g' δ
theorem om {gc:DE->gJ Bool}{sa sb:List Stmt}(hc:PDT X c gc)(ha:Ce X sa gs)(hb:Ce X sb gs'):PDS X (.If c sa sb pos) (sF gc gs gs'):=(wR hc ha hb).of λ D σ H hz7=>by
 obtain⟨δ,r,S,e,q⟩:=hz7;obtain⟨k,e1,e⟩:=gU e;refine⟨δ,k,S,e1,λ H1 s1=>?_⟩;cases k with
 | true=>rw[ai rfl]at e ⊢;exact⟨δ,r,S.ext s1,e,λ H2 s2=>q H2 (s1.trans s2)⟩
 | false=>rw[au ax]at e ⊢;exact⟨δ,r,S.ext s1,e,λ H2 s2=>q H2 (s1.trans s2)⟩
def kO (gg:Dt->DE->gJ DE)(gb:DE->gJ RD):DE->List Dt->gJ RD
 | δ,[]=>My (.nx δ)
 | δ,d::r=>(gg d δ).bind λ δ'=>(gb δ').bind λ x=>match x with
  | .nx δ''=>kO gg gb δ'' r
  | .rt v=>My (.rt v)
def rY (gi:DE->gJ (List Dt))(gg:Dt->DE->gJ DE)(gb:DE->gJ RD):DE->gJ RD:=λ δ=>(gi δ).bind λ ds=>kO gg gb δ ds
theorem pD {body:List Stmt}(hp:PassesOwn (model X.prog X.w) X.A X.env X.xe)(hc:X.calm=U6)(hi:PI X tg iter (iD X.K gi))(hg:PG X tg g)(hgd:GD X.K g gg)(hb:Ce X body gs)
  (hs:∀ x,foldedSetIterable iter X.env x=pure x:=by intro _;rfl):PDS X (.For tg iter body [] pos) (rY gi gg gs):=(qA hp hc hi hg hb hs).of λ D σ H hz8=>by
 obtain⟨δ,r,S,e,q⟩:=hz8;obtain⟨ds,e1,e⟩:=gU e;refine⟨δ,ds,S,e1,λ J H1 s1 ok=>?_⟩;refine⟨λ i m σ' H'=>m=ds.length-i/\i<=ds.length/\g6 H1 H'/\∃ δ',Sat X.K H' σ' δ'/\kO gg gs δ' (ds.drop i)=My r,⟨_,rfl,aT _,g6.refl _,δ,S.ext s1,by simpa using e⟩,?_⟩;rintro i m σ' H' ⟨rfl,hi,s2,δ',S',e3⟩;obtain⟨items,stop⟩:=ok H' s2;by_cases hlt:i<ds.length
 ·right
  have hdi:ds[i]?=My ds[i]:=by simp[hlt]
  obtain⟨go,yld⟩:=items i _ hdi;rw[eG hlt]at e3;obtain⟨δ1,f1,e3⟩:=gU (show(gg ds[i] δ').bind _=_ from e3);obtain⟨x,f2,e3⟩:=gU e3;refine⟨go,λ σ2 H2=>∃ δ2,x=.nx δ2/\g6 H1 H2/\Sat X.K H2 σ2 δ2,?_,λ v H'' hyl=>?_⟩
  ·rintro σ2 H2 ⟨δ2,rfl,s5,S5⟩;exact⟨_,by lia,rfl,hlt,s5,δ2,S5,e3⟩
  ·obtain⟨s3,iv⟩:=yld v H'' hyl
   refine hgd H'' v ds[i] σ' δ' δ1 _ iv (S'.ext s3) f1 λ σ2 S2=>⟨δ1,x,S2,f2,λ H3 s4=>?_⟩;cases x with
   | nx δ2=>exact λ σ3 S3=>⟨δ2,rfl,(s2.trans s3).trans s4,S3⟩
   | rt d=>cases e3;exact q H3 (((s1.trans s2).trans s3).trans s4)
 ·left
  have hi:i=ds.length:=by lia
  subst hi;rw[List.drop_length]at e3;cases e3;exact⟨stop,q H' (s1.trans s2) σ' S'⟩
def Q0 (i j:Nat)(g:DE->gJ (List Dt)):DE->gJ RD:=λ δ=>(g δ).bind λ ds=>match ds with
 | [x,y]=>My (.nx ((δ.set i (My x)).set j (My y)))
 | _=>U5
theorem AO {i j:Nat}{x y:Str}{gl:DE->gJ (List Dt)}{px py pt:Pos}{kt k2 pt2}(hc:X.calm=U6)(hN:X.N.Nodup)(ha:PDs X [a,b] gl)(hij:i≠j:=by decide)(hi:X.N[i]?=My x:=by rfl)(hj:X.N[j]?=My y:=by rfl)
  (hx:X.env.scope.names.lookup x=My .local:=by rfl) (hy:X.env.scope.names.lookup y=My .local:=by rfl)
  (hw:swappedStores [.Tuple [.Name x px,.Name y py] kt pt] (.Tuple [a,b] k2 pt2) X.env=pure (My [x,y]):=by rfl)
  (hs:swapsWithSole [.Tuple [.Name x px,.Name y py] kt pt] (.Tuple [a,b] k2 pt2) pos.line X.env=pure U7:=by rfl) :
  PDS X (.Assign [.Tuple [.Name x px,.Name y py] kt pt] (.Tuple [a,b] k2 pt2) pos) (Q0 i j gl):=(NY hc hN hi hj hij hx hy ha hw hs).of λ D σ H hz9=>by
 obtain⟨δ,r,S,e,q⟩:=hz9;obtain⟨ds,e1,e⟩:=gU e;match ds,e with
 | [d1,d2],e =>
  cases e;refine⟨δ,_,S,e1,λ vs H1 s1 i1=>?_⟩;cases i1 with
  | cons i1 i2 =>
   cases i2 with
   | cons i2 i3 =>cases i3;exact⟨_,_,rfl,q H1 s1 _ (((S.ext s1).set i1).set i2)⟩
end
def Gh:RD->Dt
 | .rt d=>d
 | .nx _=>.non
def nM (N:List Str)(ds:List Dt):DE:=ds.map My++U9 (N.length-ds.length) U5
section
variable {P:Program}{w:World}{K:gK}{mg:gG}{base:Heap}
theorem Fun.okD {x qual:Str}{st:Stmt}{f:Addr}{fd:FuncData}{N ps:List Str}{k:Nat}{fD:List Dt->gJ Dt}{g:DE->gJ RD}(F:Fun K x qual st f fd)(S:il N ps (gY st))
  (hbody:∀ (cdv:gL) (A:Around) (outer:List Env) (s:gM) (H:Hp) (E:XK),jI k (A.deeper (envOfC qual (gY st) s.heap.objs.size f cdv)) ->
   PSs (qt CX0 P w K mg base N qual (gY st) f cdv A outer s H E).nox (iU st) (tDS K g))
  (hg:∀ ds d,ds.length=ps.length->fD ds=My d->∃ r,g (nM N ds)=My r/\Gh r=d):pg P w K mg base CX0 (k+1) f fd ps (spD K ps.length fD):=by
 refine F.ok S (λ vs H Q E h=>?_) (λ cdv A outer s H vs Q E hr h=>?_)
 ·obtain⟨ds,d,hl,is,_⟩:=h;rw[is.length,hl]
 ·obtain⟨ds,d,hl,is,e,q⟩:=h
  obtain⟨r,e1,e2⟩:=hg ds d hl e;refine⟨_,hbody cdv A outer s H E hr,nM N ds,r,is.start,e1,λ H' s'=>?_⟩;cases r with
  | nx δ=>subst e2;exact λ σ _=>q _ H' s' .non
  | rt d'=>subst e2;exact λ v iv=>q v H' s' iv
end
section
variable {X:Cx}{e a b c:Expr}{es:List Expr}{pos:Pos}
theorem opD {f:gL->gL->Sem gL}{r:R2}{fD:Dt->Dt->gJ Dt}(h:OpR X f r)(w:∀ x y H Q dx dy d,Is X.K H x dx->Is X.K H y dy->fD dx dy=My d->(∀ v H',g6 H H'->Is X.K H' v d->Q v H')->r x y H Q):OpR X f (rD X.K fD) :=
 λ pins s σ H x y v u Q I rx ry ⟨dx,dy,d,i1,i2,e,q⟩=>h pins s σ H x y v u Q I rx ry (w x y H Q dx dy d i1 i2 e q)
theorem vx {f:gL}{r:List V->Hp->VK->Prop}{fD:List Dt->gJ Dt}(h:jy X f r)(w:∀ xs H Q ds d,Iss X.K H xs ds->fD ds=My d->(∀ v H',g6 H H'->Is X.K H' v d->Q v H')->r xs H Q):jy X f (cD X.K fD) :=
 λ pins s σ H xs us Q I rx ⟨ds,d,i1,e,q⟩=>h pins s σ H xs us Q I rx (w xs H Q ds d i1 e q)
def dI (g:Int->Int->Int):Dt->Dt->gJ Dt
 | .int i,.int j=>My (.int (g i j))
 | _,_=>U5
def dIB (g:Int->Int->Bool):Dt->Dt->gJ Dt
 | .int i,.int j=>My (.bl (g i j))
 | _,_=>U5
def bd (i:Int):Prop:=i.natAbs<2 ^ 4000
instance (i:Int):Decidable (bd i):=inferInstanceAs (Decidable (i.natAbs<2 ^ 4000))
def dIC (C:Int->Int->Prop)[∀ i j,Decidable (C i j)](g:Int->Int->Int):Dt->Dt->gJ Dt
 | .int i,.int j=>if C i j then My (.int (g i j)) else U5
 | _,_=>U5
theorem OI {g:Int->Int->Int}{x y d:Dt}(h:dI g x y=My d):∃ i j,x=.int i/\y=.int j/\d=.int (g i j):=by
 cases x with
 | int i=>cases y with
  | int j=>exact⟨_,_,rfl,rfl,(ao h).symm⟩
  | _=>cases h
 | _=>cases h
theorem Lb {g:Int->Int->Bool}{x y d:Dt}(h:dIB g x y=My d):∃ i j,x=.int i/\y=.int j/\d=.bl (g i j):=by
 cases x with
 | int i=>cases y with
  | int j=>exact⟨_,_,rfl,rfl,(ao h).symm⟩
  | _=>cases h
 | _=>cases h
theorem Lc {C:Int->Int->Prop}[∀ i j,Decidable (C i j)]{g:Int->Int->Int}{x y d:Dt}(h:dIC C g x y=My d):∃ i j,x=.int i/\y=.int j/\C i j/\d=.int (g i j):=by
 cases x with
 | int i=>cases y with
  | int j =>
   have h:(if C i j then My (Dt.int (g i j)) else U5)=My d:=h;by_cases hc:C i j
   ·rw[ai hc]at h;exact⟨_,_,rfl,rfl,hc,(ao h).symm⟩
   ·rw[au hc]at h;cases h
  | _=>cases h
 | _=>cases h
theorem oI0 {f:gL->gL->Sem gL}{g:Int->Int->Int}(h:OpR X f (rI0 λ i j=>.int (g i j))):OpR X f (rD X.K (dI g)):=opD h λ x y H Q dx dy d i1 i2 e q=>by obtain⟨i,j,rfl,rfl,rfl⟩:=OI e;exact⟨i,j,i1.int_inv,i2.int_inv,q _ H (g6.refl H) (.int _)⟩
theorem oB0 {f:gL->gL->Sem gL}{g:Int->Int->Bool}(h:OpR X f (rI0 λ i j=>.bl (g i j))):OpR X f (rD X.K (dIB g)):=opD h λ x y H Q dx dy d i1 i2 e q=>by obtain⟨i,j,rfl,rfl,rfl⟩:=Lb e;exact⟨i,j,i1.int_inv,i2.int_inv,q _ H (g6.refl H) (.bl _)⟩
theorem oIC {f:gL->gL->Sem gL}{C C':Int->Int->Prop}[∀ i j,Decidable (C i j)]{g:Int->Int->Int}(h:OpR X f (rI C' λ i j=>.int (g i j)))(w:∀ i j,C i j->C' i j):OpR X f (rD X.K (dIC C g)):=opD h λ x y H Q dx dy d i1 i2 e q=>by obtain⟨i,j,rfl,rfl,hc,rfl⟩:=Lc e;exact⟨i,j,i1.int_inv,i2.int_inv,w i j hc,q _ H (g6.refl H) (.int _)⟩
theorem qO:OpR X (binaryOp .Add) (rD X.K (dI (·+·))):=oI0 qB
theorem M_:OpR X (binaryOp .Sub) (rD X.K (dI (·-·))):=oI0 Al
theorem Ie:OpR X (compareOp .Lt) (rD X.K (dIB λ i j=>decide (i<j))):=oB0 MR
theorem Cg:OpR X (compareOp .LtE) (rD X.K (dIB λ i j=>decide (i<=j))):=oB0 QG
theorem Fb {i:Int}(h:bd i):Builtin.Int.intBits i<=2 ^ 20:=bD (PyProof.Rows.intBits_le h) (by decide)
theorem OJ {i:Int}(h:bd i):i.natAbs.log2<9000:=by
 by_cases h0:i.natAbs=0
 ·rw[h0];decide +kernel
 ·exact(Nat.log2_lt h0).mpr (aG h (cR (by decide) (by decide)))
abbrev xB:=dIC (λ i j=>bd i/\bd j) (·*·)
abbrev OK:=dIC (λ _ j=>0<j/\bd j) (· / ·)
abbrev To:=dIC (λ _ j=>0<j) (· % ·)
theorem sg:OpR X (binaryOp .Mult) (rD X.K xB):=oIC (C':=IntMulOk) (opI λ _ _ _ _ _ _ _ hc q=>mul_int q hc) λ i j h=>IntMulOk.of_bits (Fb h.1) (Fb h.2)
theorem Fc:OpR X (binaryOp .FloorDiv) (rD X.K OK):=oIC (C':=λ i j=>0<j/\bd j) (opI λ i j _ _ _ _ _ hc q=>by have h1:(0:Int)<j:=hc.1;exact floordiv_int (by lia) (by rw[fO i (by lia)];exact q) (.inl (PyProof.noPylong_of_log2 (OJ hc.2)))) λ i j h=>h
theorem Na:OpR X (binaryOp .Mod) (rD X.K To):=oIC wW λ i j h=>h
mutual
inductive Sh:Dt->Dt->Prop
 | int (i j:Int):Sh (.int i) (.int j)
 | bl (i j:Bool):Sh (.bl i) (.bl j)
 | str (i j:Str):Sh (.str i) (.str j)
 | tup {ds es:List Dt}:Shs ds es->Sh (.tup ds) (.tup es)
inductive Shs:List Dt->List Dt->Prop
 | nil (es:List Dt):Shs [] es
 | UY (es:List Dt):Shs es []
 | cons {d e:Dt} {ds es:List Dt}:Sh d e->Shs ds es->Shs (d::ds) (e::es)
end
mutual
def dEq:Dt->Dt->Bool
 | .int i,.int j=>i==j
 | .bl i,.bl j=>i==j
 | .str i,.str j=>i==j
 | .tup ds,.tup es=>ng ds es
 | _,_=>U7
def ng:List Dt->List Dt->Bool
 | [],[]=>U6
 | d::ds,e::es=>dEq d e&&ng ds es
 | _,_=>U7
end
def sh1:Dt->Dt->Bool
 | .int _,.int _=>U6
 | .bl _,.bl _=>U6
 | .str _,.str _=>U6
 | _,_=>U7
def vS:List Dt->List Dt->Bool
 | d::ds,e::es=>sh1 d e&&vS ds es
 | _,_=>U6
def sh2:Dt->Dt->Bool
 | .tup ds,.tup es=>vS ds es
 | d,e=>sh1 d e
def AQ:List Dt->List Dt->Bool
 | d::ds,e::es=>sh2 d e&&AQ ds es
 | _,_=>U6
def sh3:Dt->Dt->Bool
 | .tup ds,.tup es=>AQ ds es
 | d,e=>sh1 d e
theorem yW (e:Nat->Bool):∀ (n:Nat),(U8 (n+1)).all e=(e 0&&(U8 n).all λ i=>e (i+1)):=λ n=>by rw[List.range_succ_eq_map,List.all_cons,fk];rfl
def eAt (ds es:List Dt)(j:Nat):Bool:=match ds[j]?,es[j]? with
 | some d,My e=>dEq d e
 | _,_=>U7
theorem Fd:∀ (ds es:List Dt),((U8 (min ds.length es.length)).all (eAt ds es)&&ds.length==es.length)=ng ds es
 | [],[]=>rfl
 | [],e::es=>by simp[ng]
 | d::ds,[]=>by simp[ng]
 | d::ds,e::es=>by
  have ih:=Fd ds es;rw[ng,<-ih];simp only[bf];rw[Nat.succ_min_succ,yW];have:(λ i=>eAt (d::ds) (e::es) (i+1))=eAt ds es:=by funext i;simp[eAt]
  rw[this];have h0:eAt (d::ds) (e::es) 0=dEq d e:=rfl;rw[h0,Bool.and_assoc];congr 2;simp
variable {pins:gO}{σ:St}{H:Hp}{s:gM}
theorem Iss.vals {xs:List V}{ds:List Dt}(I:Inv X pins σ H s)(is:Iss X.K H xs ds){its:List gL}(r:Vals xs its){j:Nat}{d:Dt}(h:ds[j]?=My d):∃ v u,its[j]?=My u/\RelV v u/\Is X.K H v d:=by obtain⟨v,hv,iv⟩:=is.get h;obtain⟨u,hu,ru⟩:=r.get hv;exact⟨v,u,hu,ru,iv⟩
end
open PySem.SeqAt
section
variable {X:Cx}{e a b c:Expr}{es:List Expr}{pos:Pos}{pins:gO}{σ:St}{H:Hp}{s:gM}
theorem AR {i j:Int}:dEq (.int i) (.int j)=(i==j):=by simp[dEq]
theorem Ig {i j:Bool}:dEq (.bl i) (.bl j)=(i==j):=by simp[dEq]
theorem AS {i j:Str}:dEq (.str i) (.str j)=(i==j):=by simp[dEq]
theorem AU {i j:List Dt}:dEq (.tup i) (.tup j)=ng i j:=by simp[dEq]
theorem Fe {A:Around}{d d':Dt}{v v':V}{u u':gL}(sh:sh1 d d'=U6)(i:Is X.K H v d)(i':Is X.K H v' d')(r:RelV v u)(r':RelV v' u'):EqAt A s u u' (dEq d d'):=by
 cases d<;>cases d'<;>simp[sh1]at sh
 ·rw[i.jY]at r;rw[i'.jY]at r';cases r;cases r';rw[Ig];exact EqAt.bool_bool _ _
 ·rw[i.int_inv]at r;rw[i'.int_inv]at r';obtain⟨t,rfl⟩:=r;obtain⟨t',rfl⟩:=r';rw[AR];exact EqAt.int_int _ _ _ _
 ·rw[i.str_inv]at r;rw[i'.str_inv]at r';obtain⟨t,rfl⟩:=r;obtain⟨t',rfl⟩:=r';rw[AS];exact EqAt.str_str _ _ _ _
theorem Q1 {d d':Dt}{v:V}(sh:sh1 d d'=U6)(i:Is X.K H v d)(i':Is X.K H v d'):dEq d d'=U6:=by
 cases d<;>cases d'<;>simp[sh1]at sh
 ·have:=i.jY.symm.trans i'.jY;cases this;simp[dEq]
 ·have:=i.int_inv.symm.trans i'.int_inv;cases this;simp[dEq]
 ·have:=i.str_inv.symm.trans i'.str_inv;cases this;simp[dEq]
theorem Ih:∀ {ds es:List Dt} {vs:List V},vS ds es=U6->Iss X.K H vs ds->Iss X.K H vs es->ng ds es=U6
 | [],[],_,_,_,_=>by simp[ng]
 | [],e::es,_,_,i,j=>by cases i;cases j
 | d::ds,[],_,_,i,j=>by cases j;cases i
 | d::ds,e::es,_,h,i,j=>by
  cases i with
  | cons i1 i2 =>
   cases j with
   | cons j1 j2 =>rw[vS,aP]at h;rw[ng,Q1 h.1 i1 j1,Ih h.2 i2 j2];rfl
theorem tL:∀ {ds es:List Dt},vS ds es=U6->∀ {j:Nat} {d e:Dt},ds[j]?=My d->es[j]?=My e->sh1 d e=U6
 | [],_,_,j,d,e,h,_=>by simp at h
 | _::_,[],_,j,d,e,_,h=>by simp at h
 | d::ds,e::es,h,0,_,_,h1,h2=>by rw[vS,aP]at h;simp at h1 h2;subst h1;subst h2;exact h.1
 | d::ds,e::es,h,j+1,_,_,h1,h2=>by rw[vS,aP]at h;exact tL h.2 (by simpa using h1) (by simpa using h2)
theorem tM:∀ {ds es:List Dt},AQ ds es=U6->∀ {j:Nat} {d e:Dt},ds[j]?=My d->es[j]?=My e->sh2 d e=U6
 | [],_,_,j,d,e,h,_=>by simp at h
 | _::_,[],_,j,d,e,_,h=>by simp at h
 | d::ds,e::es,h,0,_,_,h1,h2=>by rw[AQ,aP]at h;simp at h1 h2;subst h1;subst h2;exact h.1
 | d::ds,e::es,h,j+1,_,_,h1,h2=>by rw[AQ,aP]at h;exact tM h.2 (by simpa using h1) (by simpa using h2)
theorem rF {A:Around}{ds es:List Dt}{xs ys:List V}{its its':List gL}(is:Iss X.K H xs ds)(js:Iss X.K H ys es)(r:Vals xs its)(r':Vals ys its')
  (h:∀ {j:Nat} {d e:Dt} {v v':V} {u u':gL},ds[j]?=My d->es[j]?=My e->Is X.K H v d->Is X.K H v' e->RelV v u->RelV v' u'->EqAt A s u u' (dEq d e)) :
  ∀ j (h1:j<its.toArray.size) (h2:j<its'.toArray.size),EqAt A s its.toArray[j] its'.toArray[j] (eAt ds es j):=by
 intro j h1 h2;have l1:=is.length;have l2:=js.length;have l3:=r.length;have l4:=r'.length;simp only[ar]at h1 h2;have hd:ds[j]?=My (ds[j]'(by lia)):=by simp[show j<ds.length by lia]
 have he:es[j]?=My (es[j]'(by lia)):=by simp[show j<es.length by lia]
 obtain⟨v,hv,iv⟩:=is.get hd;obtain⟨v',hv',iv'⟩:=js.get he;obtain⟨u,hu,ru⟩:=r.get hv;obtain⟨u',hu',ru'⟩:=r'.get hv';have e1:its[j]=u:=by rw[aA h1]at hu;exact ao hu
 have e2:its'[j]=u':=by rw[aA h2]at hu';exact ao hu'
 have e3:eAt ds es j=dEq (ds[j]'(by lia)) (es[j]'(by lia)):=by unfold eAt;rw[hd,he]
 rw[e3];simp only[List.getElem_toArray,e1,e2];exact h hd he iv iv' ru ru'
theorem oW {ds es:List Dt}{xs ys:List V}{its its':List gL}(is:Iss X.K H xs ds)(js:Iss X.K H ys es)(r:Vals xs its)(r':Vals ys its') :
  ((U8 (min its.toArray.size its'.toArray.size)).all (eAt ds es)&&its.toArray.size==its'.toArray.size)=ng ds es:=by
 rw[<-Fd,ar,ar,<-r.length,<-r'.length,is.length,js.length]
theorem Ld {d d':Dt}(sh:sh2 d d'=U6)(ht:¬ ∃ ds es,d=.tup ds/\d'=.tup es):sh1 d d'=U6:=by
 cases d with
 | tup ds=>cases d' with
  | tup es=>exact(ht ⟨_,_,rfl,rfl⟩).elim
  | _=>exact sh
 | _=>exact sh
theorem Ff {d d':Dt}(sh:sh3 d d'=U6)(ht:¬ ∃ ds es,d=.tup ds/\d'=.tup es):sh1 d d'=U6:=by
 cases d with
 | tup ds=>cases d' with
  | tup es=>exact(ht ⟨_,_,rfl,rfl⟩).elim
  | _=>exact sh
 | _=>exact sh
theorem Fg {A:Around}(I:Inv X pins σ H s)(hu:A.units<cLine){d d':Dt}{v v':V}{u u':gL}(sh:sh2 d d'=U6)(i:Is X.K H v d)(i':Is X.K H v' d')(r:RelV v u)(r':RelV v' u'):EqAt A s u u' (dEq d d'):=by
 by_cases ht:∃ ds es,d=.tup ds/\d'=.tup es
 ·obtain⟨ds,es,rfl,rfl⟩:=ht
  obtain⟨p,xs,rfl,hp,is⟩:=i.iI;obtain⟨q,ys,rfl,hq,js⟩:=i'.iI;cases r;cases r';have sh:vS ds es=U6:=sh;rw[AU];by_cases hpq:p=q
  ·subst hpq;have:=I.uH hp hq;subst this;rw[Ih sh is js];exact EqAt.same _
  ·obtain⟨its,rv,t1,_⟩:=I.tuple hp
   obtain⟨its',rv',t2,_⟩:=I.tuple hq;refine EqAt.of_refs hpq ?_;have:=RcAt.tuples (A:=A) (s:=s) (l:=p) (b:=q) (items:=its.toArray) (items2:=its'.toArray) (e:=eAt ds es) t1 t2 hu
    (rF is js rv rv' λ h1 h2 i1 i2 r1 r2=>Fe (tL sh h1 h2) i1 i2 r1 r2)
   rw[oW is js rv rv']at this;exact this
 ·have sh:=Ld sh ht;exact Fe sh i i' r r'
def lx:Dt->Dt->gJ Dt:=λ d d'=>if sh3 d d'=U6 then My (.bl (dEq d d')) else U5
def vT:Dt->Dt->gJ Dt:=λ d d'=>if sh3 d d'=U6 then My (.bl (!dEq d d')) else U5
theorem Ii {d d' r:Dt}(h:lx d d'=My r):sh3 d d'=U6/\r=.bl (dEq d d'):=by
 unfold lx at h;split at h
 ·cases h;exact⟨by assumption,rfl⟩
 ·cases h
theorem Ij {d d' r:Dt}(h:vT d d'=My r):sh3 d d'=U6/\r=.bl (!dEq d d'):=by
 unfold vT at h;split at h
 ·cases h;exact⟨by assumption,rfl⟩
 ·cases h
theorem Fh {d d':Dt}{v v':V}(sh:sh1 d d'=U6)(i:Is X.K H v d)(i':Is X.K H v' d'):N4 v v'=U6/\decide (v=v')=dEq d d':=by
 cases d with
 | bl b=>cases d' with
  | bl c=>rw[i.jY,i'.jY,Ig];exact⟨rfl,Dq⟩
  | _=>cases sh
 | int b=>cases d' with
  | int c=>rw[i.int_inv,i'.int_inv,AR];exact⟨rfl,An⟩
  | _=>cases sh
 | str b=>cases d' with
  | str c=>rw[i.str_inv,i'.str_inv,AS];exact⟨rfl,Ao⟩
  | _=>cases sh
 | _=>cases sh
theorem vU (hu:X.A.units+2<cLine):OpR X (compareOp .Eq) (rD X.K lx):=by
 intro pins s σ H x y v u Q I rx ry ⟨d,d',r,i,i',e,q⟩;obtain⟨sh,rfl⟩:=Ii e;by_cases ht:∃ ds es,d=.tup ds/\d'=.tup es
 ·obtain⟨ds,es,rfl,rfl⟩:=ht;obtain⟨p,xs,rfl,hp,is⟩:=i.iI;obtain⟨p',ys,rfl,hq,js⟩:=i'.iI;cases rx;cases ry;have sh:AQ ds es=U6:=sh;obtain⟨its,rv,t1,_⟩:=I.tuple hp;obtain⟨its',rv',t2,_⟩:=I.tuple hq;refine eq_tupleAt (e:=eAt ds es) t1 t2 (by lia) (rF is js rv rv' λ h1 h2 i1 i2 r1 r2=>Fg I (by show X.A.units+1<cLine;lia) (tM sh h1 h2) i1 i2 r1 r2) ?_;rw[oW is js rv rv'];exact⟨.bl _,H,I,rfl,q _ H (g6.refl H) (by rw[AU];exact .bl _)⟩
 ·have sh:=Ff sh ht;obtain⟨s1,s2⟩:=Fh sh i i';exact QF pins s σ H x y v u Q I rx ry ⟨s1,by rw[s2];exact q _ H (g6.refl H) (.bl _)⟩
theorem DW (hu:X.A.units+2<cLine):OpR X (compareOp .NotEq) (rD X.K vT):=by
 intro pins s σ H x y v u Q I rx ry ⟨d,d',r,i,i',e,q⟩;obtain⟨sh,rfl⟩:=Ij e;by_cases ht:∃ ds es,d=.tup ds/\d'=.tup es
 ·obtain⟨ds,es,rfl,rfl⟩:=ht;obtain⟨p,xs,rfl,hp,is⟩:=i.iI;obtain⟨p',ys,rfl,hq,js⟩:=i'.iI;cases rx;cases ry;have sh:AQ ds es=U6:=sh;obtain⟨its,rv,t1,_⟩:=I.tuple hp;obtain⟨its',rv',t2,_⟩:=I.tuple hq;have:=RcNeAt.tuples (A:=X.A) (s:=s) (l:=p) (b:=p') (items:=its.toArray) (items2:=its'.toArray) (e:=eAt ds es) t1 t2 (by lia) (rF is js rv rv' λ h1 h2 i1 i2 r1 r2=>Fg I (by show X.A.units+1<cLine;lia) (tM sh h1 h2) i1 i2 r1 r2);rw[oW is js rv rv']at this;exact this X.prog X.w X.xe _ ⟨.bl _,H,I,rfl,q _ H (g6.refl H) (by rw[AU];exact .bl _)⟩
 ·have sh:=Ff sh ht;obtain⟨s1,s2⟩:=Fh sh i i';exact MQ pins s σ H x y v u Q I rx ry ⟨s1,by rw[s2];exact q _ H (g6.refl H) (.bl _)⟩
def tN:Dt->gJ Int
 | .int i=>My i
 | _=>U5
def mM:List Dt->gJ (List Int)
 | []=>My []
 | d::ds=>(tN d).bind λ i=>(mM ds).map (i::·)
theorem ly {d:Dt}{i:Int}(h:tN d=My i):d=.int i:=by cases d<;>simp[tN]at h;rw[h]
theorem mz:∀ {ds:List Dt} {l:List Int},mM ds=My l->ds=l.map .int
 | [],l,h=>by cases h;rfl
 | d::ds,l,h=>by obtain⟨i,e1,h⟩:=gU h;obtain⟨r,e2,h⟩:=iA h;subst h;rw[ly e1,mz e2];rfl
@[simp] theorem nE (l:List Int):mM (l.map .int)=My l:=by
 induction l with
 | nil=>rfl
 | cons i r ih=>show(My i).bind (λ i=>(mM (r.map .int)).map (i::·))=_;rw[ih];rfl
def Ik:Dt->Dt->gJ Dt
 | .tup ds,.tup es=>(mM ds).bind λ ns=>(mM es).map λ ms=>.bl (HT.lexLt ns ms)
 | _,_=>U5
theorem Il {x y d:Dt}(e:Ik x y=My d):∃ ns ms:List Int,x=.tup (ns.map .int)/\y=.tup (ms.map .int)/\d=.bl (HT.lexLt ns ms):=by
 cases x with
 | tup ds=>cases y with
  | tup es =>obtain⟨ns,e1,e⟩:=gU (show(mM ds).bind _=_ from e);obtain⟨ms,e2,e⟩:=iA e;exact⟨ns,ms,by rw[mz e1],by rw[mz e2],e.symm⟩
  | _=>cases e
 | _=>cases e
theorem Q2 (hu:X.A.units<cLine):OpR X (compareOp .Lt) (rD X.K Ik):=opD (N9 hu) λ x y H Q dx dy d i1 i2 e q=>by obtain⟨ns,ms,rfl,rfl,rfl⟩:=Il e;obtain⟨a,xs,rfl,ha,is⟩:=i1.iI;obtain⟨b,ys,rfl,hb,js⟩:=i2.iI;rw[is.ints]at ha;rw[js.ints]at hb;exact⟨a,b,ns,ms,rfl,rfl,ha,hb,q _ H (g6.refl H) (.bl _)⟩
end
section
variable {X:Cx}{e a b c:Expr}{es:List Expr}{pos:Pos}{pins:gO}{σ:St}{H:Hp}{s:gM}
def dIx:Dt->Dt->gJ Dt
 | .tup ds,.int i=>atI ds i
 | .lst ds,.int i=>atI ds i
 | _,_=>U5
theorem Iss.atI {K:gK}{xs:List V}{ds:List Dt}{i:Int}{d:Dt}(is:Iss K H xs ds)(h:atI ds i=My d):∃ v,L2.atI xs i=My v/\Is K H v d:=by unfold L2.atI at h ⊢;obtain⟨j,e1,e2⟩:=gU h;obtain⟨v,hv,iv⟩:=is.get e2;exact⟨v,by rw[is.length,e1];exact hv,iv⟩
theorem Le {d d' r:Dt}(e:dIx d d'=My r):∃ l k,(d=.tup l\/d=.lst l)/\d'=.int k/\L2.atI l k=My r:=by
 cases d with
 | tup l=>cases d' with
  | int k=>exact⟨l,k,.inl rfl,rfl,e⟩
  | _=>cases e
 | lst l=>cases d' with
  | int k=>exact⟨l,k,.inr rfl,rfl,e⟩
  | _=>cases e
 | _=>cases e
theorem Tp:IxR X (rD X.K dIx):=by
 intro value slice pins s σ H x y v u Q I rx ry ⟨d,d',r,i,i',e,q⟩ hs;obtain⟨l,k,hd,rfl,e⟩:=Le e;rcases hd with rfl | rfl
 ·obtain⟨p,xs,rfl,hp,is⟩:=i.iI;obtain⟨w,hw,iw⟩:=is.atI e;exact xb value slice pins s σ H _ y v u Q I rx ry ⟨p,xs,_,w,rfl,i'.int_inv,hp,hw,q _ H (g6.refl H) iw⟩ hs
 ·obtain⟨p,xs,rfl,hp,is⟩:=i.lst_inv;obtain⟨w,hw,iw⟩:=is.atI e;exact kK value slice pins s σ H _ y v u Q I rx ry ⟨p,xs,_,w,rfl,i'.int_inv,SqL.of hp,hw,q _ H (g6.refl H) iw⟩ hs
theorem jC {ga gb:DE->gJ Dt}(ha:PD X a ga)(hb:PD X b gb)(hs:Av b:=by exact λ _ _=>rfl):PD X (.Subscript a b pos) (g_ dIx ga gb):=(mq Tp ha hb hs).of AI
def Us:Dt->gJ Dt
 | .tup (_::ds)=>My (.tup ds)
 | _=>U5
theorem Gi {x:V}{xs:List V}:vP (x::xs) (My 1) U5=xs:=by
 unfold vP;have e1:HT.sIx (x::xs).length 0 (My 1)=1:=by have:=HT.og (x::xs).length 0 1;rw[show((1:Nat):Int)=1 from rfl]at this;rw[this];simp
 rw[e1,HT.w_];simp
def rZ:Dt->Dt->gJ Dt
 | .lst ds,.lst es=>if ds.length+es.length<=1000 then My (.lst (ds++es)) else U5
 | _,_=>U5
theorem Im {x y d:Dt}(e:rZ x y=My d):∃ ds es,x=.lst ds/\y=.lst es/\ds.length+es.length<=1000/\d=.lst (ds++es):=by
 cases x with
 | lst ds=>cases y with
  | lst es =>
   have e:(if ds.length+es.length<=1000 then My (Dt.lst (ds++es)) else U5)=My d:=e;by_cases hl:ds.length+es.length<=1000
   ·rw[ai hl]at e;exact⟨_,_,rfl,rfl,hl,(ao e).symm⟩
   ·rw[au hl]at e;cases e
  | _=>cases e
 | _=>cases e
theorem ql:OpR X (binaryOp .Add) (rD X.K rZ):=opD Oc λ x y H Q dx dy d i1 i2 e q=>by obtain⟨ds,es,rfl,rfl,hl,rfl⟩:=Im e;obtain⟨a,xs,rfl,ha,is⟩:=i1.lst_inv;obtain⟨b,ys,rfl,hb,js⟩:=i2.lst_inv;exact⟨a,b,xs,ys,rfl,rfl,ha,hb,rE (by rw[is.length,js.length];exact hl),λ p hp=>q _ _ (g6.upd hp) (.lst gZ ((is.append js).ext (g6.upd hp)))⟩
def Ci:Dt->Dt->gJ Dt
 | .lst [d],.int k=>if 0<=k/\k<=1000 then My (.lst (U9 k.toNat d)) else U5
 | _,_=>U5
theorem Cj {α:Type}(x:α):∀ n,(U9 n [x]).flatten=U9 n x
 | 0=>rfl
 | n+1=>by rw[cV,el,Cj x n];rfl
theorem Iss.rep {K:gK}{v:V}{d:Dt}(h:Is K H v d):∀ n,Iss K H (U9 n v) (U9 n d)
 | 0=>.nil
 | n+1=>.cons h (Iss.rep h n)
theorem Io {x y d:Dt}(e:Ci x y=My d):∃ d0 k,x=.lst [d0]/\y=.int k/\(0<=k/\k<=1000)/\d=.lst (U9 k.toNat d0):=by
 cases x with
 | lst ds=>cases ds with
  | nil=>cases e
  | cons d0 r=>cases r with
   | cons _ _=>cases e
   | nil=>cases y with
    | int k =>
     have e:(if 0<=k/\k<=1000 then My (Dt.lst (U9 k.toNat d0)) else U5)=My d:=e;by_cases hk:0<=k/\k<=1000
     ·rw[ai hk]at e;exact⟨_,_,rfl,rfl,hk,(ao e).symm⟩
     ·rw[au hk]at e;cases e
    | _=>cases e
 | _=>cases e
theorem Ip:OpR X (binaryOp .Mult) (rD X.K Ci):=opD Od λ x y H Q dx dy d i1 i2 e q=>by
 obtain⟨d0,k,rfl,rfl,hk,rfl⟩:=Io e;obtain⟨a,xs,rfl,ha,is⟩:=i1.lst_inv;cases is with
 | cons j1 j2 =>cases j2;refine⟨a,k,_,rfl,i2.int_inv,ha,by lia,by lia,rE (by simp;lia),λ p hp=>q _ _ (g6.upd hp) (.lst gZ ?_)⟩;rw[Cj];exact(Iss.rep j1 _).ext (g6.upd hp)
theorem Iss.one {K:gK}{xs:List V}{d:Dt}(h:Iss K H xs [d]):∃ v,xs=[v]/\Is K H v d:=by
 cases h with
 | cons h1 h2=>cases h2;exact⟨_,rfl,h1⟩
theorem Iss.two {K:gK}{xs:List V}{d d':Dt}(h:Iss K H xs [d,d']):∃ v v',xs=[v,v']/\Is K H v d/\Is K H v' d':=by
 cases h with
 | cons h1 h2=>obtain⟨v',rfl,h3⟩:=h2.one;exact⟨_,_,rfl,h1,h3⟩
def sG (F:Dt->gJ Dt):List Dt->gJ Dt
 | [x]=>F x
 | _=>U5
@[simp] theorem Q3 (F:Dt->gJ Dt) (x:Dt):sG F [x]=F x:=rfl
theorem kr {F:Dt->gJ Dt}{ds:List Dt}{d:Dt}(e:sG F ds=My d):∃ x,ds=[x]/\F x=My d:=by
 cases ds with
 | nil=>cases e
 | cons x r=>cases r with
  | nil=>exact⟨x,rfl,e⟩
  | cons _ _=>cases e
def Gj (F:Dt->Dt->gJ Dt):List Dt->gJ Dt
 | [x,y]=>F x y
 | _=>U5
@[simp] theorem Q4 (F:Dt->Dt->gJ Dt) (x y:Dt):Gj F [x,y]=F x y:=rfl
theorem qP {F:Dt->Dt->gJ Dt}{ds:List Dt}{d:Dt}(e:Gj F ds=My d):∃ x y,ds=[x,y]/\F x y=My d:=by
 cases ds with
 | nil=>cases e
 | cons x r=>cases r with
  | nil=>cases e
  | cons y z=>cases z with
   | nil=>exact⟨x,y,rfl,e⟩
   | cons _ _=>cases e
def Iq:Dt->gJ (List Dt)
 | .tup ds=>My ds
 | .lst ds=>My ds
 | _=>U5
theorem tO {x:Dt}{l:List Dt}(e:Iq x=My l):x=.tup l\/x=.lst l:=by
 cases x with
 | tup ds=>exact .inl (by rw[ao e])
 | lst ds=>exact .inr (by rw[ao e])
 | _=>cases e
def pE:List Dt->gJ Dt:=sG λ x=>(Iq x).map λ ds=>.int ds.length
theorem zK:jy X (.builtin "len") (cD X.K pE):=vx lX λ xs H Q ds d is e q=>by
 obtain⟨x,rfl,e⟩:=kr e;obtain⟨l,e0,rfl⟩:=iA e;obtain⟨v,rfl,i⟩:=is.one;rcases tO e0 with rfl | rfl
 ·obtain⟨a,ys,rfl,ha,js⟩:=i.iI;exact⟨a,ys,rfl,.inr ha,by rw[js.length];exact q _ H (g6.refl H) (.int _)⟩
 ·obtain⟨a,ys,rfl,ha,js⟩:=i.lst_inv;exact⟨a,ys,rfl,.inl (SqL.of ha),by rw[js.length];exact q _ H (g6.refl H) (.int _)⟩
def Ck:Dt->gJ (List Dt)
 | .tup ds=>My ds
 | _=>U5
theorem nN {x:Dt}{l:List Dt}(e:Ck x=My l):x=.tup l:=by
 cases x with
 | tup ds=>rw[ao e]
 | _=>cases e
def pr2:List Dt->gJ (Int×Int)
 | [x,y]=>(tN x).bind λ a=>(tN y).map λ b=>(a,b)
 | _=>U5
theorem tP {l:List Dt}{t:Int×Int}(e:pr2 l=My t):l=[.int t.1,.int t.2]:=by
 cases l with
 | nil=>cases e
 | cons x r=>cases r with
  | nil=>cases e
  | cons y z=>cases z with
   | cons _ _=>cases e
   | nil =>obtain⟨a,e1,e2⟩:=gU (show(tN x).bind _=_ from e);obtain⟨b,e3,e4⟩:=iA e2;rw[ly e1,ly e3,<-e4]
@[simp] theorem SF (a b:Int):pr2 [.int a,.int b]=My (a,b):=rfl
def dPr (d:Dt):gJ (Int×Int):=(Ck d).bind pr2
theorem Lf {d:Dt}{t:Int×Int}(e:dPr d=My t):d=.tup [.int t.1,.int t.2]:=by obtain⟨l,e1,e2⟩:=gU e;rw[nN e1,tP e2]
@[simp] theorem SG (a b:Int):dPr (.tup [.int a,.int b])=My (a,b):=rfl
def Q5:Dt->gJ (List (Int×Int))
 | .dct ds=>My ds
 | _=>U5
theorem Ir {x:Dt}{l:List (Int×Int)}(e:Q5 x=My l):x=.dct l:=by
 cases x with
 | dct ds=>rw[ao e]
 | _=>cases e
def Fi:List Dt->gJ Dt:=sG λ x=>(Q5 x).map λ ds=>.int ds.length
theorem Gk:jy X (.builtin "len") (λ xs H Q=>∃ a kvs,xs=[V.ref a]/\Rd H a (.dK kvs)/\Q (.int kvs.length) H):=by intro pins s σ H xs us Q I r h;obtain⟨a,kvs,rfl,ha,q⟩:=h;obtain⟨u,rfl,ru⟩:=vals1 r;cases ru;exact QO I ha λ t s' I'=>⟨.int kvs.length,H,I',⟨t,rfl⟩,q⟩
theorem OL:jy X (.builtin "len") (cD X.K Fi):=vx Gk λ xs H Q ds d is e q=>by obtain⟨x,rfl,e1⟩:=kr e;obtain⟨l,e2,rfl⟩:=iA e1;obtain rfl:=Ir e2;obtain⟨v,rfl,i⟩:=is.one;obtain⟨a,rfl,ha⟩:=i.rC;exact⟨a,_,rfl,ha,by rw[kvD,ah];exact q _ H (g6.refl H) (.int _)⟩
def Q6:List Dt->gJ Dt:=sG λ x=>(tN x).map λ i=>.int (if i<0 then -i else i)
@[simp] theorem SH (i:Int):Q6 [.int i]=My (.int (if i<0 then -i else i)):=rfl
theorem Fj:jy X (.builtin "abs") (cD X.K Q6):=vx Hn λ xs H Q ds d is e q=>by obtain⟨x,rfl,e1⟩:=kr e;obtain⟨l,e2,rfl⟩:=iA e1;obtain rfl:=ly e2;obtain⟨v,rfl,i⟩:=is.one;exact⟨_,by rw[i.int_inv],q _ H (g6.refl H) (.int _)⟩
def Fl (l:List Dt):gJ Dt:=(pr2 l).map λ t=>.int (if t.2<t.1 then t.2 else t.1)
def Fm (l:List Dt):gJ Dt:=(pr2 l).map λ t=>.int (if t.2>t.1 then t.2 else t.1)
theorem OM (hc:X.calm=U6):jy X (.builtin "min") (cD X.K Fl):=vx (uM hc) λ xs H Q ds d is e q=>by obtain⟨l,e1,rfl⟩:=iA e;obtain rfl:=tP e1;obtain⟨v,v',rfl,i1,i2⟩:=is.two;exact⟨_,_,by rw[i1.int_inv,i2.int_inv],q _ H (g6.refl H) (.int _)⟩
theorem ON (hc:X.calm=U6):jy X (.builtin "max") (cD X.K Fm):=vx (uL hc) λ xs H Q ds d is e q=>by obtain⟨l,e1,rfl⟩:=iA e;obtain rfl:=tP e1;obtain⟨v,v',rfl,i1,i2⟩:=is.two;exact⟨_,_,by rw[i1.int_inv,i2.int_inv],q _ H (g6.refl H) (.int _)⟩
def pF:List Dt->gJ Dt:=sG λ x=>(Iq x).map .tup
theorem we:jy X (.type "tuple") (cD X.K pF):=vx oD λ xs H Q ds d is e q=>by
 obtain⟨x,rfl,e⟩:=kr e;obtain⟨l,e0,rfl⟩:=iA e;obtain⟨v,rfl,i⟩:=is.one;rcases tO e0 with rfl | rfl
 ·obtain⟨a,ys,rfl,ha,js⟩:=i.iI;exact⟨a,ys,rfl,.inr ⟨ha,q _ H (g6.refl H) (.tup ha js)⟩⟩
 ·obtain⟨a,ys,rfl,ha,js⟩:=i.lst_inv;exact⟨a,ys,rfl,.inl ⟨SqL.of ha,λ p hp=>q _ _ (g6.upd hp) (.tup (SqT.of gZ) (js.ext (g6.upd hp)))⟩⟩
def tyD:Dt->gJ String
 | .ty T=>My T
 | _=>U5
theorem Lg {x:Dt}{T:String}(e:tyD x=My T):x=.ty T:=by
 cases x with
 | ty T=>rw[ao e]
 | _=>cases e
def yX:List Dt->gJ (List Bool)
 | []=>My []
 | d::ds=>(asB d).bind λ i=>(yX ds).map (i::·)
theorem tQ:∀ {ds:List Dt} {l:List Bool},yX ds=My l->ds=l.map .bl
 | [],l,h=>by cases h;rfl
 | d::ds,l,h=>by obtain⟨i,e1,h⟩:=gU h;obtain⟨r,e2,h⟩:=iA h;subst h;rw[tJ e1,tQ e2];rfl
@[simp] theorem xC (l:List Bool):yX (l.map .bl)=My l:=by
 induction l with
 | nil=>rfl
 | cons i r ih=>show(My i).bind (λ i=>(yX (r.map .bl)).map (i::·))=_;rw[ih];rfl
def tR:Dt->gJ (List Dt)
 | .lst ds=>My ds
 | _=>U5
theorem kP {x:Dt}{l:List Dt}(e:tR x=My l):x=.lst l:=by
 cases x with
 | lst ds=>rw[ao e]
 | _=>cases e
def xD:List Dt->gJ Dt:=sG λ x=>(tR x).bind λ ds=>(yX ds).map λ l=>.bl (l.all id)
theorem Lh {K:gK}{xs:List V}{l:List Bool}(h:Iss K H xs (l.map .bl)):xs=l.map V.bl:=by
 induction l generalizing xs with
 | nil=>cases h;rfl
 | cons b r ih=>cases h with | cons h1 h2=>rw[h1.jY,ih h2];rfl
theorem Cm:∀ {l:List Bool} {its:List gL},Vals (l.map V.bl) its->its=l.map Value.bool
 | [],_,.nil=>rfl
 | b::r,_,.cons h t=>by cases h;rw[Cm t];rfl
theorem yY (l:List Bool):(U8 l.length).all (λ i=>l.getD i U6)=l.all id:=by
 rw[bJ];simp only[bF,aC,id];constructor
 ·intro h x hx;obtain⟨i,hi,rfl⟩:=cf hx;have:=h i hi;rw[aq,aA hi]at this;exact this
 ·intro h i hi;rw[aq,aA hi];exact h _ (dZ hi)
theorem zL {prog:Program}{w:World}{A:Around}{E:gH}{l:Addr}{arr:Array gL}{Q:gH}(hl:s.heap.IsList l arr)
  (h:∀ s2:gM,s2={s with heap:=s.heap.push {cls:=.type "list_iterator",data:=.fields #[.ref l,.int 0 0]}}->s2.heap.IsListIter s.heap.objs.size l 0->s2.heap.IsList l arr->l≠s.heap.objs.size->(∀ b∈[s.heap.objs.size,l],b<s2.heap.objs.size)->Q (.ref s.heap.objs.size) s2) :
  wpAny (model prog w) A (pyIter (.ref l)) Q E s:=by
 have hlt:l<s.heap.objs.size:=by obtain⟨_,e,_⟩:=hl;exact av e
 refine e_ hl (h _ rfl ⟨_,aF _ rfl,rfl,rfl⟩ (hl.push _) (aM hlt) λ b hb=>?_);simp only[cH];simp only[aD,bg,or_false]at hb;rcases hb with rfl | rfl
 ·exact eE _
 ·exact dN hlt
theorem Fn {h':Heap}{o:Obj}(hk:∀ b u,b∉[s.heap.objs.size]->(s.heap.push o).get? b=My u->h'.get? b=My u):∀ b u,s.heap.get? b=My u->h'.get? b=My u:=λ b u e =>hk b u (λ hm=>absurd (av e) (by rw[bp.mp hm];exact aV _)) (ag _ e)
theorem Fo (hc:X.calm=U6):jy X (.builtin "all") (cD X.K xD):=by
 intro pins s σ H xs us Q I rs ⟨ds,d,is,e,q⟩;obtain⟨x,rfl,e2⟩:=kr e;obtain⟨l,e0,e3⟩:=gU e2;obtain rfl:=kP e0;clear e e2 e0
 ·obtain⟨bs,e1,e⟩:=iA e3
  subst e;have e1:=tQ e1;subst e1;obtain⟨v,rfl,i⟩:=is.one;obtain⟨p,ys,rfl,hp,js⟩:=i.lst_inv;obtain⟨u,rfl,ru⟩:=vals1 rs;cases ru;obtain⟨its,rv,pl,_⟩:=I.list (SqL.of hp);rw[Lh js]at rv;have e2:=Cm rv;subst e2;refine call_all_walk (zL pl.isList λ s2 es hi hl ne hfp=>?_);refine⟨_,_,_,_,_,_,λ i=>bs.getD i U6,rfl,Walks.list (A:=X.A.in1) (I.ok.hd hc) _ p ne _,⟨hi,hl⟩,?_,λ h' tk hk=>?_⟩
  ·intro i v s' Q' E' hv hq
   have hv:(bs.map Value.bool)[i]?=My v:=by simpa using hv
   rw[aH]at hv;cases hb:bs[i]? with
   | none=>rw[hb]at hv;cases hv
   | some k =>rw[hb]at hv;cases hv;refine bT ?_;have hq:Q' (bs.getD i U6) s':=hq;rw[aq,hb]at hq;exact hq
  ·subst es
   refine⟨.bl (bs.all id),H,I.kept (t':=tk) (Fn hk),?_,q _ H (g6.refl H) (.bl _)⟩;have:(U8 (bs.map Value.bool).toArray.size).all (λ i=>bs.getD i U6)=bs.all id:=by rw[ar,ah,yY]
   rw[this];rfl
theorem Cn (l:List Int):preSum (λ i=>l.getD i 0) l.length=l.sum:=by
 have go:∀ n,n<=l.length->preSum (λ i=>l.getD i 0) n=(l.take n).sum:=by
  intro n;induction n with
  | zero=>intro _;simp[preSum]
  | succ n ih =>intro hn;show preSum _ n+l.getD n 0=_;rw[ih (by lia),fq,List.sum_append];congr 1;rw[aq,aA (by lia)];simp
 rw[go _ (aw _),eD]
def si:List Dt->gJ Dt:=sG λ x=>(tR x).bind λ l=>(mM l).map λ l=>.int l.sum
theorem Iu (hc:X.calm=U6):jy X (.builtin "sum") (cD X.K si):=by
 intro pins s σ H xs us Q I rs hz;obtain⟨ds,d,is,e,q⟩:=hz;obtain⟨x,rfl,e2⟩:=kr e;obtain⟨l,e0,e3⟩:=gU e2;obtain rfl:=kP e0;clear e e2 e0
 ·obtain⟨bs,e1,e⟩:=iA e3
  subst e;have e1:=mz e1;subst e1;obtain⟨v,rfl,i⟩:=is.one;obtain⟨p,ys,rfl,hp,js⟩:=i.lst_inv;obtain⟨u,rfl,ru⟩:=vals1 rs;cases ru;obtain⟨its,rv,pl,_⟩:=I.list (SqL.of hp);rw[js.ints]at rv;have hlen:its.length=bs.length:=by have:=rv.length;simpa using this.symm
  refine call_sum_walkG (zL pl.isList λ s2 es hi hl ne hfp=>?_);refine⟨_,_,_,_,_,_,λ i=>bs.getD i 0,rfl,Walks.list (A:=X.A.in1) (I.ok.hd hc) _ p ne _,⟨hi,hl⟩,hfp,?_,λ h' tk t' hk=>?_⟩
  ·intro i v hv
   have hv:its[i]?=My v:=by simpa using hv
   have hib:i<bs.length:=by rw[<-hlen];exact(aN.mp hv).1
   obtain⟨u,hu,t,rt⟩:=rv.get (i:=i) (x:=.int bs[i]) (by simp[hib]);rw[hv]at hu;cases hu;exact⟨t,by show v=Value.int (bs.getD i 0) t;rw[rt,aq,aA hib];rfl⟩
  ·subst es;refine⟨.int bs.sum,H,I.kept (t':=tk) (Fn hk),⟨t',?_⟩,q _ H (g6.refl H) (.int _)⟩;rw[ar,hlen,Cn]
def tS (srt:List Int->List Int):List Dt->gJ Dt:=sG λ x=>(tR x).bind λ ds=>if ds.length<64 then (mM ds).map λ l=>.lst ((srt l).map .int) else U5
theorem vV:∀ {us:List gL} {ns:List Int},IntsAre us ns->Vals (ns.map V.int) us:=by
 intro us ns h;induction h with
 | nil=>exact .nil
 | cons n t _ ih=>exact .cons ⟨t,rfl⟩ ih
theorem Co (srt:List Int->List Int)(hp:∀ l,(srt l).Perm l)(hs:∀ l,(srt l).Pairwise (·<=·)):jy X (.builtin "sorted") (cD X.K (tS srt)):=by
 intro pins s σ H xs us Q I rs ⟨ds,d,is,e,q⟩;obtain⟨x,rfl,e2⟩:=kr e;obtain⟨l,e0,e3⟩:=gU e2;obtain rfl:=kP e0;clear e e2 e0
 ·by_cases h64:l.length<64
  ·rw[ai h64]at e3
   obtain⟨bs,e1,e⟩:=iA e3;subst e;have e1:=mz e1;subst e1;obtain⟨v,rfl,i⟩:=is.one;obtain⟨p,ys,rfl,hp',js⟩:=i.lst_inv;obtain⟨u,rfl,ru⟩:=vals1 rs;cases ru;obtain⟨its,rv,pl,_⟩:=I.list (SqL.of hp');rw[js.ints]at rv;have hlen:its.length=bs.length:=by have:=rv.length;simpa using this.symm
   have h64:bs.length<64:=by simpa using h64
   refine sorted_ints pl.isList (intsAre_of rv) (by lia) λ out ns' ia pe pw=>?_;obtain⟨ep,he⟩:=sortedAll_at s.heap its out;have hns:ns'=srt bs:=by have p2:=pe.trans (hp bs).symm;exact p2.eq_of_pairwise (λ a b _ _ h1 h2=>Int.le_antisymm h1 h2) pw (hs bs)
   subst hns;have hnew:=I.laid (a:=s.heap.objs.size+1) (o:=.lst ((srt bs).map V.int)) (h':=sortedAll s.heap its out) (t':=s.toks) (λ b u e=>sortedAll_old e) (gA _) ⟨by rw[ah,(hp bs).length_eq,sizeLine_eq];lia,out.toList,ep,vV ia,by simpa using he⟩;exact⟨.ref (s.heap.objs.size+1),_,hnew,rfl,q _ _ (g6.upd (I.hok.fresh (gA _))) (.lst gZ (Iss.E8 _))⟩
  ·rw[au h64]at e3;cases e3
end
end L2
namespace L2
open PySem PySem.Spec PyProof.Rows Zp
section
variable {X:Cx}{e a b c:Expr}{es:List Expr}{pos:Pos}{tg:Expr}
theorem OO {scope:Scope}{own fr:List Str}{ix:List Nat}(h1:scope.kind=.function:=by rfl)(h2:(scope.names.all λ x=>x.2 != .local || scope.names.lookup x.1==My .local)=U6:=by rfl)
  (h3:(scope.names.all λ x=>x.2 != .cell)=U6:=by rfl) (h4:(scope.names.all λ x=>x.2 != .free || (X.env.kindOf x.1==My .cell || X.env.kindOf x.1==My .free))=U6:=by rfl)
  (h5:(own.all λ x=>scope.names.lookup x==My .local)=U6:=by rfl) (h6:(fr.all λ x=>scope.names.lookup x==My .free)=U6:=by rfl) (h7:ix.map (λ i=>X.N[i]?)=fr.map My:=by rfl) (h8:(own++fr).Nodup:=by decide +kernel):lY X scope own fr ix:=by
 simp only[bF,Bool.or_eq_true,bne_iff_ne,beq_iff_eq]at h2 h3 h4 h5 h6;refine⟨h1,λ x hx e=>?_,λ x hx=>h3 x hx,λ x hx e=>?_,h5,h6,h7,h8⟩
 ·rcases h2 x hx with z | z
  ·exact absurd e z
  ·exact z
 ·rcases h4 x hx with z | z
  ·exact absurd e z
  ·exact z
def jE:Dt->gJ (List Dt)
 | .tup ds=>My ds
 | .lst ds=>My ds
 | _=>U5
theorem l_ {g:DE->gJ Dt}(h:PD X e g):PI X tg e (iD X.K (gI jE g)):=λ pins s σ H R I hz1=>by
 obtain⟨δ,ds,S,q,k⟩:=hz1;obtain⟨x,e1,e2⟩:=gU q;cases x<;>simp[jE]at e2
 ·subst e2;exact OD h pins s σ H R I ⟨δ,_,S,by unfold gI;rw[e1];rfl,k⟩
 ·subst e2;exact OE h pins s σ H R I ⟨δ,_,S,by unfold gI;rw[e1];rfl,k⟩
def jJ (gs:DE->gJ (List Dt)):DE->gJ (List Dt):=λ δ=>(gs δ).bind oE
def Li (t1 t2:Bool)(gs:DE->gJ (List Dt)):DE->gJ (List Dt):=λ δ=>(gs δ).bind (H_ t1 t2)
theorem jK {gs:DE->gJ (List Dt)}{p:Pos}(hm:X.mg "range"=U5)(ha:PDs X [a] gs)(hg:Gl X "range":=by rfl)(hs:starEach [a] X.env=[(U7,eval a X.env)]:=by rfl):PI X tg (.Call (.Name "range" p) [a] [] pos) (iD X.K (jJ gs)):=Gg hm ha hg hs
theorem Nb {gs:DE->gJ (List Dt)}{elts:List Expr}{kk:Nat}{ps p:Pos}(t1 t2:Bool)(hm:X.mg "zip"=U5)(ha:PDs X [a,b] gs)(hg:Gl X "zip":=by rfl)(hs:starEach [a,b] X.env=[(U7,eval a X.env),(U7,eval b X.env)]:=by rfl)(hs2:starEach [b] X.env=[(U7,eval b X.env)]:=by rfl):PI X (.Tuple elts kk ps) (.Call (.Name "zip" p) [a,b] [] pos) (iD X.K (Li t1 t2 gs)):=OH t1 t2 hm ha hg hs hs2 boot_zip
theorem ip {k:Nat}{A:Around}(hr:jI k A):A.units+2<cLine:=by have:=hr.units;lia
end
abbrev Hg (n:Nat)(N:List Str)(f:List Dt->gJ Dt)(g:DE->gJ RD):Prop:=∀ ds d,ds.length=n->f ds=My d->∃ r,g (nM N ds)=My r/\Gh r=d
def srt (l:List Int):List Int:=l.mergeSort (λ a b=>decide (a<=b))
theorem qQ (l:List Int):(srt l).Perm l:=List.mergeSort_perm ..
theorem pG (l:List Int):(srt l).Pairwise (·<=·):=by have:=List.pairwise_mergeSort (le:=λ a b:Int=>decide (a<=b)) (λ a b c h1 h2=>by simp at *;lia) (λ a b=>by simp;lia) l;exact this.imp λ h=>by simpa using h
def hV (q:Rat):Dt:=.tup [.int q.num,.int q.den]
def dQ (d:Dt):gJ Rat:=(dPr d).bind λ t=>if 0<t.2/\Int.gcd t.1 t.2=1 then My (U_ t.1 t.2) else U5
theorem sH {a b:Int}(h:0<b)(g:Int.gcd a b=1):(U_ a b).num=a/\((U_ a b).den:Int)=b:=by
 obtain⟨n,rfl⟩:∃ n:Nat,b=n:=⟨b.toNat,by lia⟩;have hn:n≠0:=by lia
 rw[c_];have g':a.natAbs.gcd n=1:=by simpa [Int.gcd] using g
 rw[<-Rat.normalize_eq_mkRat hn,Rat.normalize_eq hn];simp[g']
theorem DX {d:Dt}{q:Rat}(h:dQ d=My q):d=hV q:=by
 obtain⟨t,e,h⟩:=gU h;rw[Lf e];by_cases hc:0<t.2/\Int.gcd t.1 t.2=1
 ·rw[ai hc]at h;cases h;obtain⟨h1,h2⟩:=sH hc.1 hc.2;unfold hV;rw[h1,h2]
 ·rw[au hc]at h;cases h
@[simp] theorem xE (q:Rat):dQ (hV q)=My q:=by
 show(if 0<(q.den:Int)/\Int.gcd q.num q.den=1 then My (U_ q.num q.den) else U5)=My q;have h1:0<q.den:=q.den_pos;have h2:Int.gcd q.num q.den=1:=by simpa [Int.gcd,Nat.Coprime] using q.reduced
 rw[ai ⟨by lia,h2⟩,c_,ft]
def dQs:List Dt->gJ (List Rat)
 | []=>My []
 | d::ds=>(dQ d).bind λ i=>(dQs ds).map (i::·)
theorem wg:∀ {ds:List Dt} {l:List Rat},dQs ds=My l->ds=l.map hV
 | [],l,h=>by cases h;rfl
 | d::ds,l,h=>by obtain⟨i,e1,h⟩:=gU h;obtain⟨r,e2,h⟩:=iA h;subst h;rw[DX e1,wg e2];rfl
@[simp] theorem AV (l:List Rat):dQs (l.map hV)=My l:=by
 induction l with
 | nil=>rfl
 | cons i r ih=>show(dQ (hV i)).bind (λ i=>(dQs (r.map hV)).map (i::·))=_;rw[ih,xE];rfl
def sm (q:Rat):Prop:=q.num.natAbs<2 ^ 1900/\q.den<2 ^ 1900
instance (q:Rat):Decidable (sm q):=inferInstanceAs (Decidable (_/\_))
abbrev xF:Dt:=.tup [.int 0,.int 1]
abbrev Iv:Dt:=.tup [.int 1,.int 1]
theorem Iw:hV 0=xF:=rfl
theorem Q7:hV 1=Iv:=rfl
def kY (l:List Dt):gJ Dt:=(pr2 l).map λ t=>.int (Int.gcd t.1 t.2)
@[simp] theorem Q8 (a b:Int):kY [.int a,.int b]=My (.int (Int.gcd a b)):=rfl
def Kn:List Dt->gJ Dt
 | [x]=>(dQ x).map λ _=>.bl U6
 | _=>U5
def lL (l:List Dt):gJ Dt:=(pr2 l).bind λ t=>if 0<t.2/\bd t.2 then My (hV (U_ t.1 t.2)) else U5
@[simp] theorem zM (a b:Int):lL [.int a,.int b]=if 0<b/\bd b then My (hV (U_ a b)) else U5:=rfl
theorem Cp {l:List Dt}{d:Dt}(h:lL l=My d):∃ a b:Int,l=[.int a,.int b]/\(0<b/\bd b)/\d=hV (U_ a b):=by
 obtain⟨t,e,h⟩:=gU h;by_cases hc:0<t.2/\bd t.2
 ·rw[ai hc]at h;exact⟨_,_,tP e,hc,(ao h).symm⟩
 ·rw[au hc]at h;cases h
def uX:List Dt->gJ Dt
 | [x,y]=>(dQ x).bind λ a=>(dQ y).bind λ b=>if sm a/\sm b then My (hV (a+b)) else U5
 | _=>U5
def rG:List Dt->gJ Dt
 | [x,y]=>(dQ x).bind λ a=>(dQ y).bind λ b=>if sm a/\sm b then My (hV (a*b)) else U5
 | _=>U5
def tT:Rat->List Rat->gJ Rat
 | a,[]=>My a
 | a,b::r=>if sm a/\sm b then tT (a+b) r else U5
def pH:List Dt->gJ Dt
 | [x]=>(jE x).bind λ xs=>(dQs xs).bind λ l=>(tT 0 l).map hV
 | _=>U5
def sI:DE->gJ RD:=(jc (jB 2 (hG 2 kY (gP (gT 0) (gP (gT 1) gS)))) (kc (iX (gP (g_ OK (gT 0) (gT 2)) (gP (g_ OK (gT 1) (gT 2)) gS)))))
abbrev DY:List Str:=["top","bottom","divisor"]
def DZ:DE->gJ RD:=(kc (hG 2 lL (gP (g_ (dI (·+·)) (g_ xB (g_ dIx (gT 0) (gC (.int 0))) (g_ dIx (gT 1) (gC (.int 1)))) (g_ xB (g_ dIx (gT 1) (gC (.int 0))) (g_ dIx (gT 0) (gC (.int 1))))) (gP (g_ xB (g_ dIx (gT 0) (gC (.int 1))) (g_ dIx (gT 1) (gC (.int 1)))) gS))))
abbrev OP:List Str:=["one","other"]
def AW:DE->gJ RD:=(kc (hG 2 lL (gP (g_ xB (g_ dIx (gT 0) (gC (.int 0))) (g_ dIx (gT 1) (gC (.int 0)))) (gP (g_ xB (g_ dIx (gT 0) (gC (.int 1))) (g_ dIx (gT 1) (gC (.int 1)))) gS))))
abbrev Lj:List Str:=["one","other"]
def AX:DE->gJ RD:=(jc (jB 1 (gC xF)) (jc (rY (gI jE (gT 0)) (ggN 2) (jB 1 (hG 2 uX (gP (gT 1) (gP (gT 2) gS))))) (kc (gT 1))))
abbrev Lk:List Str:=["fractions","whole","one"]
theorem sJ {a b:Int}(h:0<b):(U_ a b).num=a / (Int.gcd a b:Int)/\((U_ a b).den:Int)=b / (Int.gcd a b:Int):=by
 obtain⟨n,rfl⟩:∃ n:Nat,b=n:=⟨b.toNat,by lia⟩;have hn:n≠0:=by lia
 rw[c_,<-Rat.normalize_eq_mkRat hn,Rat.normalize_eq hn];simp[Int.gcd]
theorem D0 {a b:Int}(h:0<b):0<(Int.gcd a b:Int)/\(Int.gcd a b:Int)<=b:=by have h1:0<Int.gcd a b:=Int.gcd_pos_of_ne_zero_right _ (by lia);have h2:(Int.gcd a b:Int) ∣ b:=Int.gcd_dvd_right ..;exact⟨by lia,Int.le_of_dvd h h2⟩
theorem Nc {a b:Int}(h:bd b)(h0:0<=a)(h1:a<=b):bd a:=by unfold bd at *;exact bN (by lia) h
theorem Cq:Hg 2 DY lL sI:=by
 intro ds d hl h;obtain⟨a,b,rfl,hc,rfl⟩:=Cp h
 ··clear h;obtain⟨h1,h2⟩:=sJ (a:=a) hc.1;obtain⟨h3,h4⟩:=D0 (a:=a) hc.1;have h5:0<(Int.gcd a b:Int)/\bd (Int.gcd a b:Int):=⟨h3,Nc hc.2 (by lia) h4⟩;refine⟨.rt (hV (U_ a b)),?_,rfl⟩;unfold hV;rw[h1,h2];simp[sI,jc,jB,hG,gP,gT,gS,nM,kY,kc,iX,g_,dIC,h5,show b≠0 by lia]
theorem lR {α:Type}{enc:α->Dt}{gg:Dt->DE->gJ DE}{gt:DE->gJ Bool}{ge:DE->gJ Dt}{δc:DE}{δa:α->DE}{p:α->Bool}{enc':α->Dt}:∀ (l:List α),(∀ a∈l,gg (enc a) δc=My (δa a)/\gt (δa a)=My (p a)/\(p a=U6->ge (δa a)=My (enc' a))) ->
  rX gg gt ge δc (l.map enc)=My ((l.filter p).map enc')
 | [],_=>rfl
 | a::r,h=>by
  obtain⟨h1,h2,h3⟩:=h a aB;have ih:=lR r λ b hb=>h b (ay _ hb);rw[aI,rX,h1,ak,h2,ak,ih];cases hp:p a with
  | true=>rw[ai rfl,h3 hp,List.filter_cons_of_pos hp];rfl
  | false=>rw[au ax,List.filter_cons_of_neg (by rw[hp];exact ax)]
theorem jo {α:Type}{enc:α->Dt}{gg:Dt->DE->gJ DE}{ge:DE->gJ Dt}{δc:DE}{δa:α->DE}{enc':α->Dt}(l:List α)(h:∀ a∈l,gg (enc a) δc=My (δa a)/\ge (δa a)=My (enc' a)) :
  rX gg jd ge δc (l.map enc)=My (l.map enc'):=by
 have:=lR (gt:=jd) (p:=λ _=>U6) l λ a ha=>⟨(h a ha).1,rfl,λ _=>(h a ha).2⟩;rw[this,List.filter_eq_self.mpr λ _ _=>rfl]
theorem Iy {a b:Int}(ha:a.natAbs<2 ^ 1900)(hb:b.natAbs<2 ^ 1900):bd (a*b):=by
 unfold bd;rw[Int.natAbs_mul]
 calc a.natAbs*b.natAbs<=2 ^ 1900*2 ^ 1900:=Nat.mul_le_mul (d9 ha) (d9 hb)
  _=2 ^ 3800:=by rw[<-Nat.pow_add]
  _<2 ^ 4000:=Nat.pow_lt_pow_right (by decide) (by decide)
theorem vy {a:Int}(ha:a.natAbs<2 ^ 1900):bd a:=aG ha (cR (by decide) (by decide))
theorem D1 (a b:Rat):U_ (a.num*b.den+b.num*a.den) ((a.den:Int)*b.den)=a+b:=by have h:=Rat.divInt_add_divInt a.num b.num (d₁:=a.den) (d₂:=b.den) (by have:=a.den_pos;lia) (by have:=b.den_pos;lia);rw[<-h,c_,c_,ft,ft]
theorem D2 (a b:Rat):U_ (a.num*b.num) ((a.den:Int)*b.den)=a*b:=by have h:=Rat.divInt_mul_divInt a.num b.num (d₁:=a.den) (d₂:=b.den);rw[<-h,c_,c_,ft,ft]
set_option tactic.hygienic true in
theorem Nd {x y:Dt}{d:Dt}{f:Rat->Rat->Rat}(h:((dQ x).bind λ a=>(dQ y).bind λ b=>if sm a/\sm b then My (hV (f a b)) else U5)=My d):∃ a b,x=hV a/\y=hV b/\sm a/\sm b/\d=hV (f a b):=by
 obtain⟨a,e1,h⟩:=gU h;obtain⟨b,e2,h⟩:=gU h;split at h
 ·rename_i hc;cases h;exact⟨a,b,DX e1,DX e2,hc.1,hc.2,rfl⟩
 ·cases h
theorem Q9 {α:Type}(x y:α):atI [x,y] 0=My x:=rfl
theorem Q_ {α:Type}(x y:α):atI [x,y] 1=My y:=rfl
theorem Fp:Hg 2 OP uX DZ:=by
 intro ds d hl h;match ds,h with
 | [x,y],h =>obtain⟨a,b,rfl,rfl,ha,hb,rfl⟩:=Nd (f:=(·+·)) h;have h1:0<((a.den:Int)*b.den):=Int.mul_pos (by have:=a.den_pos;lia) (by have:=b.den_pos;lia);have h2:bd ((a.den:Int)*b.den):=Iy (by simpa using ha.2) (by simpa using hb.2);have a1:=vy ha.1;have b1:=vy hb.1;have a2:bd (a.den:Int):=vy (by simpa using ha.2);have b2:bd (b.den:Int):=vy (by simpa using hb.2);refine⟨.rt (hV (a+b)),?_,rfl⟩;rw[<-D1];simp only[DZ,hV,kc,hG,gP,g_,gT,gC,gS,nM,aI,eo,bf,cM,fz,bE,aS,da,ak,dIx,Q9,Q_,dIC,dI,a1,b1,a2,b2,and_self,dJ,cq,zM,h1,h2]
theorem Cr:Hg 2 Lj rG AW:=by
 intro ds d hl h;match ds,h with
 | [x,y],h =>obtain⟨a,b,rfl,rfl,ha,hb,rfl⟩:=Nd (f:=(·*·)) h;have h1:0<((a.den:Int)*b.den):=Int.mul_pos (by have:=a.den_pos;lia) (by have:=b.den_pos;lia);have h2:bd ((a.den:Int)*b.den):=Iy (by simpa using ha.2) (by simpa using hb.2);have a1:=vy ha.1;have b1:=vy hb.1;have a2:bd (a.den:Int):=vy (by simpa using ha.2);have b2:bd (b.den:Int):=vy (by simpa using hb.2);refine⟨.rt (hV (a*b)),?_,rfl⟩;rw[<-D2];simp only[AW,hV,kc,hG,gP,g_,gT,gC,gS,nM,aI,eo,bf,cM,fz,bE,aS,da,ak,dIx,Q9,Q_,dIC,dI,a1,b1,a2,b2,and_self,dJ,cq,zM,h1,h2]
set_option tactic.hygienic true in
theorem sL (x:Dt):∀ (l:List Rat) (a b:Rat) (o:gJ Dt),tT a l=My b->∃ o',kO (ggN 2) (jB 1 (hG 2 uX (gP (gT 1) (gP (gT 2) gS)))) [My x,My (hV a),o] (l.map hV)=My (.nx [My x,My (hV b),o'])
 | [],a,b,o,h=>by cases h;exact⟨o,rfl⟩
 | c::r,a,b,o,h=>by
  have h:(if sm a/\sm c then tT (a+c) r else U5)=My b:=h;split at h
  ·rename_i hc;obtain⟨o',ih⟩:=sL x r (a+c) b (My (hV c)) h;refine⟨o',?_⟩;rw[<-ih];simp only[aI,kO,ggN,ak,jB,hG,gP,gT,gS,List.set_cons_succ,List.set_cons_zero,aS,bE,da,cq,bf,cM,dJ,uX,xE,hc,and_self]
  ·cases h
theorem Iz:Hg 1 Lk pH AX:=by
 intro ds d hl h;match ds,h with
 | [x],h =>obtain⟨xs,e1,h⟩:=gU (show(jE x).bind _=_ from h);obtain⟨l,e2,h⟩:=gU h;obtain⟨b,e3,h⟩:=iA h;subst h;have e2:=wg e2;subst e2;obtain⟨o',e4⟩:=sL x l 0 b U5 e3;refine⟨.rt (hV b),?_,rfl⟩;simp only[AX,jc,jB,gC,cq,ak,nM,aI,eo,bf,cM,fz,rY,gI,gT,U9,List.set_cons_succ,List.set_cons_zero,aS,bE,da,e1,kc,gq];rw[Iw]at e4;simp only[e4,aS,bE,da,ak,cq]
end L2
namespace L2
section
variable (δ:DE)(g g' g2:DE->gJ Dt)(r r':DE->gJ RD)(gs:DE->gJ (List Dt))(t t':DE->gJ Bool)(i j:Nat)(f f':Dt->Dt->gJ Dt)(h:List Dt->gJ Dt)(d:Dt)
@[simp] theorem Ut:jc r r' δ=(r δ).bind λ x=>match x with | .nx δ'=>r' δ' | .rt d=>My (.rt d):=rfl
@[simp] theorem Uu:jB i g δ=(g δ).map λ d=>.nx (δ.set i (My d)):=rfl
@[simp] theorem SI:hG i h gs δ=(gs δ).bind λ ds=>if ds.length=i then h ds else U5:=rfl
@[simp] theorem Tq:iM h gs δ=(gs δ).bind h:=rfl
@[simp] theorem Ts:gP g gs δ=(g δ).bind λ x=>(gs δ).map λ r=>x::r:=rfl
@[simp] theorem SJ:gS δ=My []:=rfl
@[simp] theorem Nf:gT i δ=(δ[i]?).join:=rfl
@[simp] theorem e_C:gC d δ=My d:=rfl
@[simp] theorem Ng:g_ f g g' δ=(g δ).bind λ x=>(g' δ).bind λ y=>f x y:=rfl
@[simp] theorem Uv:kc g δ=(g δ).map .rt:=rfl
@[simp] theorem Tt:nL g δ=(g δ).map λ _=>.nx δ:=rfl
@[simp] theorem Tu:mL δ=My (.nx δ):=rfl
@[simp] theorem Uw:sF t r r' δ=(t δ).bind λ k=>if k=U6 then r δ else r' δ:=rfl
@[simp] theorem Ra:gIf t g g' δ=(t δ).bind λ k=>if k=U6 then g δ else g' δ:=rfl
@[simp] theorem Ux:tK t t' δ=(t δ).bind λ k=>if k=U6 then My U6 else t' δ:=rfl
@[simp] theorem Tv:HW t t' δ=(t δ).bind λ k=>if k=U6 then t' δ else My U7:=rfl
@[simp] theorem Tw:lP t δ=(t δ).map (!·):=rfl
@[simp] theorem UZ:gTr g δ=(g δ).bind DU:=rfl
@[simp] theorem e_B:gB g δ=(g δ).bind asB:=rfl
@[simp] theorem Uy:Cc g g' δ=(gB g δ).bind λ k=>if k=U6 then g' δ else My (.bl U7):=rfl
@[simp] theorem Uz:Oy g δ=(gB g δ).map λ k=>.bl (!k):=rfl
@[simp] theorem UA:iX gs δ=(gs δ).bind λ ds=>if ds.length<=1000 then My (.tup ds) else U5:=rfl
@[simp] theorem UB:lQ gs δ=(gs δ).bind λ ds=>if ds.length<=1000 then My (.lst ds) else U5:=rfl
@[simp] theorem SK:qL f f' g g' g2 δ=(g δ).bind λ x=>(g' δ).bind λ y=>(f x y).bind λ z=>(asB z).bind λ k=>if k=U6 then (g2 δ).bind λ w=>f' y w else My (.bl U7):=rfl
@[simp] theorem UC (gg:Dt->DE->gJ DE):yV gg g δ=(g δ).bind λ d=>(gg d δ).map .nx:=rfl
@[simp] theorem Tx (x y:Dt):nc i j (.tup [x,y]) δ=My ((δ.set i (My x)).set j (My y)):=rfl
@[simp] theorem UD:ggN i d δ=My (δ.set i (My d)):=rfl
@[simp] theorem UE:Q0 i j gs δ=(gs δ).bind λ ds=>match ds with | [x,y]=>My (.nx ((δ.set i (My x)).set j (My y))) | _=>U5:=rfl
@[simp] theorem U0 (own:List PySem.Str) (ix:List Nat) (gi:DE->gJ (List Dt)) (gg:Dt->DE->gJ DE):gLC own ix gi gg t g δ=(gi δ).bind λ ds=>if ds.length<=1000 then (rX gg t g (vv own ix δ) ds).map .lst else U5:=rfl
@[simp] theorem UG (gi:DE->gJ (List Dt)) (gg:Dt->DE->gJ DE):rY gi gg r δ=(gi δ).bind λ ds=>kO gg r δ ds:=rfl
@[simp] theorem U1 (f:Dt->gJ (List Dt)):gI f g δ=(g δ).bind f:=rfl
@[simp] theorem TB:jJ gs δ=(gs δ).bind oE:=rfl
@[simp] theorem UH (t1 t2:Bool):Li t1 t2 gs δ=(gs δ).bind (H_ t1 t2):=rfl
@[simp] theorem TC:jd δ=My U6:=rfl
@[simp] theorem TF (own:List PySem.Str) (ix:List Nat):vv own ix δ=own.map (λ _=>U5)++ix.map λ i=>(δ[i]?).getD U5:=rfl
@[simp] theorem SM (N:List PySem.Str) (ds:List Dt):nM N ds=ds.map My++U9 (N.length-ds.length) U5:=rfl
@[simp] theorem TH {α:Type} (x:α):U9 0 x=[]:=rfl
@[simp] theorem TJ {α:Type} (x:α):U9 1 x=[x]:=rfl
@[simp] theorem TK {α:Type} (x:α):U9 2 x=[x,x]:=rfl
@[simp] theorem TL {α:Type} (x:α):U9 3 x=[x,x,x]:=rfl
@[simp] theorem TM {α:Type} (x:α):U9 4 x=[x,x,x,x]:=rfl
@[simp] theorem TQ (ds:List Dt):jE (.tup ds)=My ds:=rfl
@[simp] theorem TR (ds:List Dt):jE (.lst ds)=My ds:=rfl
@[simp] theorem TU (b:Bool):DU (.bl b)=My b:=rfl
@[simp] theorem Nh (b:Bool):asB (.bl b)=My b:=rfl
@[simp] theorem TV (n:List Dt):pE [.tup n]=My (.int n.length):=rfl
@[simp] theorem TX (n:List Dt):pE [.lst n]=My (.int n.length):=rfl
@[simp] theorem TY (n:List (Int×Int)):Fi [.dct n]=My (.int n.length):=rfl
@[simp] theorem Rc (n:List Dt):pF [.lst n]=My (.tup n):=rfl
@[simp] theorem Rf (n:List Dt):pF [.tup n]=My (.tup n):=rfl
@[simp] theorem U2 (g:Int->Int->Int) (a b:Int):dI g (.int a) (.int b)=My (.int (g a b)):=rfl
@[simp] theorem UI (g:Int->Int->Bool) (a b:Int):dIB g (.int a) (.int b)=My (.bl (g a b)):=rfl
@[simp] theorem U3 (a b:Int):vT (.int a) (.int b)=My (.bl (!(a==b))):=rfl
@[simp] theorem Rg (a b:Int):lx (.int a) (.int b)=My (.bl (a==b)):=rfl
@[simp] theorem UJ (a b:Bool):vT (.bl a) (.bl b)=My (.bl (!(a==b))):=rfl
@[simp] theorem UK (a b:Bool):lx (.bl a) (.bl b)=My (.bl (a==b)):=rfl
@[simp] theorem UL (ds:List Dt) (i:Int):dIx (.tup ds) (.int i)=atI ds i:=rfl
@[simp] theorem UM (ds:List Dt) (i:Int):dIx (.lst ds) (.int i)=atI ds i:=rfl
@[simp] theorem UN (x y:Dt):atI [x,y] 0=My x:=rfl
@[simp] theorem UO (x y:Dt):atI [x,y] 1=My y:=rfl
@[simp] theorem UP (l:List Bool):xD [.lst (l.map .bl)]=My (.bl (l.all id)):=by show(yX (l.map .bl)).map _=_;rw[xC];rfl
end
open PySem PySem.Spec PyProof.Rows Zp PySem.SeqAt
section
variable {X:Cx}{e a b c:Expr}{es:List Expr}{pos:Pos}{pins:gO}{σ:St}{H:Hp}{s:gM}
def qu (d:Dt)(es:List Dt):Bool:=es.any λ e=>dEq e d
def dIn (neg:Bool):Dt->Dt->gJ Dt
 | d,.tup es=>if (es.all λ e=>sh2 e d)=U6 then My (.bl (if neg then !qu d es else qu d es)) else U5
 | d,.lst es=>if (es.all λ e=>sh2 e d)=U6 then My (.bl (if neg then !qu d es else qu d es)) else U5
 | _,_=>U5
open Classical in
def isIt (its:List gL)(es:List Dt)(d:Dt)(w:gL):Bool:=decide (∃ (j:Nat) (e:Dt),its[j]?=My w/\es[j]?=My e/\dEq e d=U6)
theorem tU {its:List gL}{es:List Dt}{d:Dt}{w:gL}:isIt its es d w=U6↔∃ (j:Nat) (e:Dt),its[j]?=My w/\es[j]?=My e/\dEq e d=U6:=by unfold isIt;exact @decide_eq_true_iff _ (Classical.propDecidable _)
theorem tV {xs:List V}{its:List gL}{es:List Dt}{d:Dt}(js:Iss X.K H xs es)(r:Vals xs its):its.any (isIt its es d)=qu d es:=by
 rw[bJ,fA];unfold qu;rw[fA];constructor
 ·rintro⟨w,_,h⟩;obtain⟨j,e,h1,h2,h3⟩:=tU.mp h;exact⟨e,bt h2,h3⟩
 ·rintro⟨e,he,h⟩
  obtain⟨j,hj,ej⟩:=cf he;have ej:es[j]?=My e:=by rw[aA hj,ej]
  obtain⟨v,hv,iv⟩:=js.get ej;obtain⟨u,hu,_⟩:=r.get hv;exact⟨u,bt hu,tU.mpr ⟨j,e,hu,ej,h⟩⟩
theorem wj {A:Around}(I:Inv X pins σ H s)(hu:A.units<cLine){xs:List V}{its:List gL}{es:List Dt}{d:Dt}{x:V}{v:gL}(js:Iss X.K H xs es)(r:Vals xs its)(i:Is X.K H x d)(rx:RelV x v)
  (sh:(es.all λ e=>sh2 e d)=U6) (w:gL) (hw:w∈its):EqAt A s w v (isIt its es d w):=by
 have at_:∀ j e,its[j]?=My w->es[j]?=My e->EqAt A s w v (dEq e d):=λ j e h1 h2=>by obtain⟨y,u,hu',ru,iy⟩:=js.vals I r h2;rw[h1]at hu';cases hu';exact Fg I hu (bF.mp sh e (bt h2)) iy i ru rx
 cases hq:isIt its es d w with
 | true =>obtain⟨j,e,h1,h2,h3⟩:=tU.mp hq;have:=at_ j e h1 h2;rw[h3]at this;exact this
 | false =>
  obtain⟨j,hj,ej⟩:=cf hw;have hl:its.length=es.length:=by rw[<-r.length,js.length]
  have h1:its[j]?=My w:=by rw[aA hj,ej]
  have h2:es[j]?=My es[j]:=aA (by lia);have:=at_ j _ h1 h2;have n:¬ dEq es[j] d=U6:=λ z=>by rw[tU.mpr ⟨j,_,h1,h2,z⟩]at hq;cases hq
  rw[bx]at n;rw[n]at this;exact this
set_option tactic.hygienic true in
theorem OQ (hu:X.A.units+2<cLine):OpR X (compareOp .In) (rD X.K (dIn U7)):=by
 intro pins s σ H x y v u Q I rx ry ⟨d,d',r,i,i',e,q⟩;have hu1:X.A.in1.units<cLine:=by have:X.A.in1.units=X.A.units+1:=rfl;lia
 cases d'<;>try (cases e;done)
 ·rename_i es
  have e:(if (es.all λ e=>sh2 e d)=U6 then My (Dt.bl (qu d es)) else U5)=My r:=e;split at e
  ·rename_i sh;cases e;obtain⟨p,xs,rfl,hp,js⟩:=i'.iI;cases ry;obtain⟨its,rv,pl,hz⟩:=I.tuple hp;refine in_tupleAt (isIt its es d) pl (λ w hw=>wj I hu1 js rv i rx sh w (by simpa using hw)) ⟨.bl _,H,I,rfl,?_⟩;rw[fB,tV js rv];exact q _ H (g6.refl H) (.bl _)
  ·cases e
 ·rename_i es
  have e:(if (es.all λ e=>sh2 e d)=U6 then My (Dt.bl (qu d es)) else U5)=My r:=e;split at e
  ·rename_i sh;cases e;obtain⟨p,xs,rfl,hp,js⟩:=i'.lst_inv;cases ry;obtain⟨its,rv,pl,hz⟩:=I.list (SqL.of hp);refine in_listAt (isIt its es d) pl.isList (λ w hw=>wj I hu1 js rv i rx sh w (by simpa using hw)) ⟨.bl _,H,I,rfl,?_⟩;rw[fB,tV js rv];exact q _ H (g6.refl H) (.bl _)
  ·cases e
set_option tactic.hygienic true in
theorem Ll (hu:X.A.units+2<cLine):OpR X (compareOp .NotIn) (rD X.K (dIn U6)):=by
 intro pins s σ H x y v u Q I rx ry ⟨d,d',r,i,i',e,q⟩;have hu1:X.A.in1.units<cLine:=by have:X.A.in1.units=X.A.units+1:=rfl;lia
 cases d'<;>try (cases e;done)
 ·rename_i es
  have e:(if (es.all λ e=>sh2 e d)=U6 then My (Dt.bl (!qu d es)) else U5)=My r:=e;split at e
  ·rename_i sh;cases e;obtain⟨p,xs,rfl,hp,js⟩:=i'.iI;cases ry;obtain⟨its,rv,pl,hz⟩:=I.tuple hp;refine notIn_tupleAt (isIt its es d) pl (λ w hw=>wj I hu1 js rv i rx sh w (by simpa using hw)) ⟨.bl _,H,I,rfl,?_⟩;rw[fB,tV js rv];exact q _ H (g6.refl H) (.bl _)
  ·cases e
 ·rename_i es
  have e:(if (es.all λ e=>sh2 e d)=U6 then My (Dt.bl (!qu d es)) else U5)=My r:=e;split at e
  ·rename_i sh;cases e;obtain⟨p,xs,rfl,hp,js⟩:=i'.lst_inv;cases ry;obtain⟨its,rv,pl,hz⟩:=I.list (SqL.of hp);refine notIn_listAt (isIt its es d) pl.isList (λ w hw=>wj I hu1 js rv i rx sh w (by simpa using hw)) ⟨.bl _,H,I,rfl,?_⟩;rw[fB,tV js rv];exact q _ H (g6.refl H) (.bl _)
  ·cases e
def gUn (f:Dt->gJ Dt)(g:DE->gJ Dt):DE->gJ Dt:=λ δ=>(g δ).bind f
end
end L2
namespace L2
open PySem PySem.Spec PyProof.Rows Zp
section
variable {X:Cx}{a b e:Expr}{es:List Expr}{pos:Pos}
def Rh:Dt->gJ Str
 | .str z=>My z
 | _=>U5
theorem IA {x:Dt}{z:Str}(e:Rh x=My z):x=.str z:=by
 cases x with
 | str y=>rw[ao e]
 | _=>cases e
end
section
variable {X:Cx}{a b e o:Expr}{es:List Expr}{pos:Pos}
def Fq:List Dt->gJ (List Str)
 | []=>My []
 | d::ds=>(Rh d).bind λ z=>(Fq ds).map (z::·)
theorem zN {ds:List Dt}:∀ {l:List Str},Fq ds=My l->ds=l.map .str:=by
 induction ds with
 | nil=>intro l h;cases h;rfl
 | cons d ds ih =>intro l h;obtain⟨z,e1,h1⟩:=gU h;obtain⟨r,e2,h2⟩:=iA h1;subst h2;rw[IA e1,ih e2];rfl
theorem Iss.ne {K:gK}{H:Hp}{vs:List V}{ds:List Dt}(h:Iss K H vs ds)(n:ds≠[]):vs≠[]:=by intro e;subst e;cases h;exact n rfl
def pI:List Dt->gJ Dt:=sG λ x=>(Iq x).map .lst
theorem xG:jy X (.type "list") (cD X.K pI):=vx Ax λ xs H Q ds d is e q=>by
 obtain⟨x,rfl,e1⟩:=kr e;obtain⟨l,e0,rfl⟩:=iA e1;obtain⟨v,rfl,i⟩:=is.one;rcases tO e0 with rfl | rfl
 ·obtain⟨a,ys,rfl,ha,js⟩:=i.iI;exact⟨a,ys,rfl,.inr ha,λ p hp=>q _ _ (g6.upd hp) (.lst gZ (js.ext (g6.upd hp)))⟩
 ·obtain⟨a,ys,rfl,ha,js⟩:=i.lst_inv;exact⟨a,ys,rfl,.inl (SqL.of ha),λ p hp=>q _ _ (g6.upd hp) (.lst gZ (js.ext (g6.upd hp)))⟩
end
abbrev gR (k:Nat):Dt:=.int k
def hJ (p:Nat×Nat):Dt:=.tup [gR p.1,gR p.2]
abbrev iK (l:gN):Dt:=.tup (l.map hJ)
def h_ (w:Nat×gN):Dt:=.tup [gR w.1,iK w.2]
def jU:Dt->gJ Nat
 | .int i=>if 0<=i then My i.toNat else U5
 | _=>U5
theorem ju {d:Dt}{k:Nat}(h:jU d=My k):d=gR k:=by cases d<;>simp[jU]at h;rw[<-h.2,gR];congr 1;lia
@[simp] theorem jj (k:Nat):jU (gR k)=My k:=by simp[jU,gR]
def OR {α:Type}(F:Dt->Dt->gJ α):List Dt->gJ α
 | [x,y]=>F x y
 | _=>U5
theorem Cs {α:Type}{F:Dt->Dt->gJ α}{l:List Dt}{d:α}(e:OR F l=My d):∃ x y,l=[x,y]/\F x y=My d:=by
 cases l with
 | nil=>cases e
 | cons x r=>cases r with
  | nil=>cases e
  | cons y z=>cases z with
   | nil=>exact⟨x,y,rfl,e⟩
   | cons _ _=>cases e
def dNP (d:Dt):gJ (Nat×Nat):=(Ck d).bind (OR λ x y=>(jU x).bind λ a=>(jU y).map λ b=>(a,b))
theorem Lm {d:Dt}{p:Nat×Nat}(h:dNP d=My p):d=hJ p:=by obtain⟨l,e0,h⟩:=gU h;obtain⟨x,y,rfl,h⟩:=Cs h;obtain⟨a,e1,h⟩:=gU h;obtain⟨b,e2,h⟩:=iA h;subst h;rw[nN e0,ju e1,ju e2];rfl
@[simp] theorem Ln (p:Nat×Nat):dNP (hJ p)=My p:=by show(jU (gR p.1)).bind (λ a=>(jU (gR p.2)).map λ b=>(a,b))=_;rw[jj,jj];rfl
def yZ:List Dt->gJ gN
 | []=>My []
 | d::ds=>(dNP d).bind λ i=>(yZ ds).map (i::·)
theorem nO:∀ {ds:List Dt} {l:gN},yZ ds=My l->ds=l.map hJ
 | [],l,h=>by cases h;rfl
 | d::ds,l,h=>by obtain⟨i,e1,h⟩:=gU h;obtain⟨r,e2,h⟩:=iA h;subst h;rw[Lm e1,nO e2];rfl
@[simp] theorem tW (l:gN):yZ (l.map hJ)=My l:=by
 induction l with
 | nil=>rfl
 | cons i r ih=>show(dNP (hJ i)).bind (λ i=>(yZ (r.map hJ)).map (i::·))=_;rw[ih,Ln];rfl
def dTs (d:Dt):gJ gN:=(Iq d).bind yZ
def dTt (d:Dt):gJ gN:=(Ck d).bind yZ
theorem wk {d:Dt}{l:gN}(h:dTt d=My l):d=iK l:=by obtain⟨ds,e,h⟩:=gU h;rw[nN e,nO h]
@[simp] theorem wo (l:gN):dTt (iK l)=My l:=tW l
theorem Lo {d:Dt}{l:gN}(h:dTs d=My l):d=iK l\/d=.lst (l.map hJ):=by
 obtain⟨ds,e,h⟩:=gU h;rcases tO e with rfl | rfl
 ·exact .inl (by rw[nO h])
 ·exact .inr (by rw[nO h])
@[simp] theorem AY (l:gN):dTs (iK l)=My l:=tW l
def nbI (l:gN)(p:Nat):List Int:=srt ((l.filter λ t=>t.2==p).map (λ t=>(t.1:Int))++(l.filter λ t=>t.1==p).map λ t=>(t.2:Int))
def nb (l:gN)(p:Nat):List Nat:=(nbI l p).map Int.toNat
theorem Ct (l:gN)(p:Nat):(nbI l p).Perm ((l.filter λ t=>t.2==p).map (λ t=>(t.1:Int))++(l.filter λ t=>t.1==p).map λ t=>(t.2:Int)):=qQ _
theorem AZ (l:gN)(p:Nat):(nb l p).Perm ((l.filter λ t=>t.2==p).map (·.1)++(l.filter λ t=>t.1==p).map (·.2)):=by have:=(Ct l p).map Int.toNat;unfold nb;simpa [bu,br] using this
theorem IB (l:gN)(p:Nat):nbI l p=(nb l p).map λ(k:Nat)=>(k:Int):=by
 unfold nb;rw[aU];conv=>lhs;rw[<-cY (nbI l p)]
 refine bR λ x hx=>?_;have h:=(Ct l p).mem_iff.mp hx;have:0<=x:=by rcases a_.mp h with h | h<;>(obtain⟨t,_,rfl⟩:=aE.mp h;lia)
 simp;lia
theorem D3 (l:gN)(p:Nat):(nb l p).length<=2*l.length:=by rw[(AZ l p).length_eq,aK,ah,ah];have:=dB (λ t:Nat×Nat=>t.2==p) l;have:=dB (λ t:Nat×Nat=>t.1==p) l;lia
def sj (fd:gN)(k:Nat):Bool:=fd.any λ q=>q.1==k
def look (fd:gN)(k:Nat):Nat:=(fd.lookup k).getD 0
def je (place:Nat)(st:gN×List Nat)(near:Nat):gN×List Nat:=if sj st.1 near=U6 then st else (st.1++[(near,look st.1 place+1)],st.2++[near])
def visit (l:gN)(st:gN×List Nat)(place:Nat):gN×List Nat:=(nb l place).foldl (je place) st
def jS (l:gN)(fd:gN)(iH:List Nat):gN×List Nat:=iH.foldl (visit l) (fd,[])
def mr (l:gN):Nat->gN->List Nat->gN
 | 0,fd,_=>fd
 | _+1,fd,[]=>fd
 | k+1,fd,e::es=>mr l k (jS l fd (e::es)).1 (jS l fd (e::es)).2
def bfs (l:gN)(s:Nat):gN:=mr l (2*l.length+2) [(s,0)] [s]
def lM (fd:gN):List (Int×Int):=fd.map λ q=>((q.1:Int),(q.2:Int))
def mX (p q:Nat×Nat):Bool:=HT.lexLt [(p.1:Int),(p.2:Int)] [(q.1:Int),(q.2:Int)]
def rise (l:gN):Bool:=(l.zip l.tail).all λ pq=>mX pq.1 pq.2
structure Good (w:Nat×gN):Prop where
 two:2<=w.1
 mv:w.1<=8
 ok:∀ p∈w.2,p.1<p.2/\p.2<w.1
 rise:rise w.2=U6
 all:(bfs w.2 0).length=w.1
 len:w.2.length<=30
 ne:w.2≠[]
def Cu (w:Nat×gN):Bool:=decide (2<=w.1/\w.1<=8)&&(w.2.all λ p=>decide (p.1<p.2/\p.2<w.1))&&rise w.2&&decide ((bfs w.2 0).length=w.1)&&decide (w.2.length<=30)&&!w.2.isEmpty
theorem zO (w:Nat×gN):Cu w=U6↔Good w:=by
 unfold Cu;simp only[aP,decide_eq_true_eq,bF,Bool.not_eq_true',List.isEmpty_eq_false_iff];constructor
 ·rintro⟨⟨⟨⟨⟨h1,h2⟩,h3⟩,h4⟩,h5⟩,h6⟩;exact⟨h1.1,h1.2,h2,h3,h4,h5,h6⟩
 ·rintro⟨h1,h1',h2,h3,h4,h5,h6⟩;exact⟨⟨⟨⟨⟨⟨h1,h1'⟩,h2⟩,h3⟩,h4⟩,h5⟩,h6⟩
def dW (d:Dt):gJ (Nat×gN):=(Ck d).bind (OR λ x y=>(jU x).bind λ n=>(dTt y).bind λ l=>if Cu (n,l)=U6 then My (n,l) else U5)
theorem oF {d:Dt}{w:Nat×gN}(h:dW d=My w):d=h_ w/\Good w:=by
 obtain⟨l,e0,h⟩:=gU h;obtain⟨x,y,rfl,h⟩:=Cs h;obtain⟨a,e1,h⟩:=gU h;obtain⟨b,e2,h⟩:=gU h;by_cases hg:Cu (a,b)=U6
 ·rw[ai hg]at h;cases h;rw[nN e0,ju e1,wk e2];exact⟨rfl,(zO _).mp hg⟩
 ·rw[au hg]at h;cases h
theorem mC {w:Nat×gN}(h:Good w):dW (h_ w)=My w:=by show(jU (gR w.1)).bind (λ n=>(dTt (iK w.2)).bind λ l=>if Cu (n,l)=U6 then My (n,l) else U5)=_;rw[jj,wo,ak,ak,ai ((zO _).mpr h)]
def Ni:List Dt->gJ Dt
 | [x]=>(dTt x).bind λ l=>if l.length<=1000/\l≠[] then My (.bl (rise l)) else U5
 | _=>U5
def jq:List Dt->gJ Dt
 | [x,y]=>(dTs x).bind λ l=>(jU y).bind λ p=>if l.length<=30 then My (.tup ((nb l p).map gR)) else U5
 | _=>U5
def oq:List Dt->gJ Dt
 | [x,y]=>(dTs x).bind λ l=>(jU y).bind λ p=>if l.length<=30 then My (.dct (lM (bfs l p))) else U5
 | _=>U5
def n_ (w:Nat×gN):List Nat:=(U8 w.1).map λ p=>(nb w.2 p).length
def rH:List Dt->gJ Dt
 | [x]=>(dW x).map λ w=>.lst ((n_ w).map gR)
 | _=>U5
def mO:List Dt->gJ Dt
 | [x]=>(dW x).map λ _=>.non
 | _=>U5
def kg:List Dt->gJ Dt
 | [x,y]=>(dW x).bind λ w=>(jU y).bind λ p=>if p<w.1 then My .non else U5
 | _=>U5
def jG (l:List Dt):gJ Dt:=(pr2 l).bind λ t=>if 0<=t.1/\t.1<=t.2 then My .non else U5
@[simp] theorem OS (k m:Int):jG [.int k,.int m]=if 0<=k/\k<=m then My .non else U5:=rfl
abbrev Cv:List Str:=["things"]
def rJ:DE->gJ RD:=(jc (jB 2 (gLC ["a","b"] [1] (gI jE (gT 0)) (nc 0 1) (gB (g_ lx (gT 1) (gT 2))) (gT 0))) (jc (jB 3 (gLC ["a","b"] [1] (gI jE (gT 0)) (nc 0 1) (gB (g_ lx (gT 0) (gT 2))) (gT 1))) (kc (iM pF (gP (iM (tS srt) (gP (g_ rZ (gT 2) (gT 3)) gS)) gS)))))
abbrev Gm:List Str:=["ties","place","lesser","greater"]
def uY:DE->gJ RD:=(jc (yV (nc 1 2) (gT 0)) (kc (gLC ["place"] [2] (jJ (gP (gT 1) gS)) (ggN 0) jd (iM pE (gP (hG 2 jq (gP (gT 1) (gP (gT 0) gS))) gS)))))
abbrev Gn:List Str:=["web","many","ties"]
theorem Lp (l:gN):((l.map hJ).zip (l.tail.map hJ)).map (λ(p,q)=>Dt.tup [p,q])=(l.zip l.tail).map λ pq=>Dt.tup [hJ pq.1,hJ pq.2]:=by rw[List.zip_map,aU];rfl
theorem ma (a b:Nat):((a:Int)==(b:Int))=(a==b):=by rw[bJ];simp;lia
set_option tactic.hygienic true in
theorem D4:Hg 2 Gm jq rJ:=by
 intro ds d hl h;match ds,h with
 | [x,y],h =>
  obtain⟨l,e1,h⟩:=gU (show(dTs x).bind _=_ from h);obtain⟨p,e2,h⟩:=gU h;split at h
  ·rename_i hc
   cases h;rw[ju e2];refine⟨.rt (.tup ((nb l p).map gR)),?_,rfl⟩;have lc1:=lR (enc:=hJ) (gg:=nc 0 1) (gt:=gB (g_ lx (gT 1) (gT 2))) (ge:=gT 0) (δc:=[U5,U5,My (gR p)]) (δa:=λ t=>[My (gR t.1),My (gR t.2),My (gR p)]) (p:=λ t=>t.2==p) (enc':=λ t=>gR t.1) l λ a _=>⟨rfl,by simp[gR,ma],λ _=>rfl⟩
   have lc2:=lR (enc:=hJ) (gg:=nc 0 1) (gt:=gB (g_ lx (gT 0) (gT 2))) (ge:=gT 1) (δc:=[U5,U5,My (gR p)]) (δa:=λ t=>[My (gR t.1),My (gR t.2),My (gR p)]) (p:=λ t=>t.1==p) (enc':=λ t=>gR t.2) l λ a _=>⟨rfl,by simp[gR,ma],λ _=>rfl⟩
   have hlen:l.length<=1000:=by lia
   have f1:=dB (λ t:Nat×Nat=>t.2==p) l;have f2:=dB (λ t:Nat×Nat=>t.1==p) l;have e5:((l.filter λ t=>t.2==p).map (λ t=>gR t.1))++((l.filter λ t=>t.1==p).map λ t=>gR t.2)=((l.filter λ t=>t.2==p).map (λ t=>(t.1:Int))++(l.filter λ t=>t.1==p).map λ t=>(t.2:Int)).map Dt.int:=by simp[gR,br]
   have e6:rZ (.lst ((l.filter λ t=>t.2==p).map (λ t=>gR t.1))) (.lst ((l.filter λ t=>t.1==p).map λ t=>gR t.2))=My (.lst (((l.filter λ t=>t.2==p).map (λ t=>(t.1:Int))++(l.filter λ t=>t.1==p).map λ t=>(t.2:Int)).map Dt.int)):=by show(if _ then My (Dt.lst _) else U5)=_;rw[ai (by simp only[ah];lia),e5]
   have e7:tS srt [.lst (((l.filter λ t=>t.2==p).map (λ t=>(t.1:Int))++(l.filter λ t=>t.1==p).map λ t=>(t.2:Int)).map Dt.int)]=My (.lst ((nb l p).map gR)):=by show(if _ then _ else U5)=_;rw[ai (by simp only[ah,aK];lia),nE];have:=IB l p;unfold nbI at this;rw[cq,this,aU];rfl
   generalize ((l.filter λ t=>t.2==p).map (λ t=>(t.1:Int))++(l.filter λ t=>t.1==p).map λ t=>(t.2:Int)).map Dt.int=zs at e6 e7;generalize ((l.filter λ t=>t.2==p).map (λ t=>gR t.1))=xs at lc1 e6;generalize ((l.filter λ t=>t.1==p).map (λ t=>gR t.2))=ys at lc2 e6;rcases Lo e1 with rfl | rfl
   ·simp[rJ,lc1,lc2,hlen,e6,e7]
   ·simp[rJ,lc1,lc2,hlen,e6,e7]
  ·cases h
theorem jF {n:Nat}(h:n<=1000000):oE [gR n]=My ((U8 n).map λ(i:Nat)=>gR i):=by show(if (n:Int)<=1000000/\-1000000<=(n:Int) then My ((U8 (n:Int).toNat).map λ(i:Nat)=>Dt.int i) else U5)=_;rw[ai (by lia),cg]
theorem A0 {l:gN}(h:l.length<=30)(p:Nat):jq [iK l,gR p]=My (.tup ((nb l p).map gR)):=by show(dTs (iK l)).bind (λ l=>(jU (gR p)).bind λ p=>if l.length<=30 then My (Dt.tup ((nb l p).map gR)) else U5)=_;rw[AY,jj,ak,ak,ai h]
theorem IC {x:Dt}{l:gN}(e:dTs x=My l)(h:l.length<=30)(p:Nat):jq [x,gR p]=My (.tup ((nb l p).map gR)):=by show(dTs x).bind (λ l=>(jU (gR p)).bind λ p=>if l.length<=30 then My (Dt.tup ((nb l p).map gR)) else U5)=_;rw[e,jj,ak,ak,ai h]
theorem D5:Hg 1 Gn rH uY:=by
 intro ds d hl h;match ds,h with
 | [x],h =>
  obtain⟨w,e1,h⟩:=iA (show(dW x).map _=_ from h);subst h;obtain⟨rfl,hg⟩:=oF e1;refine⟨.rt (.lst ((n_ w).map gR)),?_,rfl⟩;have lc:=jo (enc:=λ i:Nat=>gR i) (gg:=ggN 0) (ge:=iM pE (gP (hG 2 jq (gP (gT 1) (gP (gT 0) gS))) gS)) (δc:=[U5,My (iK w.2)]) (δa:=λ i=>[My (gR i),My (iK w.2)]) (enc':=λ i=>gR (nb w.2 i).length) (U8 w.1) λ a _=>⟨rfl,by simp[A0 hg.len]⟩
  have h8:=hg.mv;simp[uY,h_,jF (show w.1<=1000000 by lia),lc,n_,br];lia
abbrev Web:=Nat×gN
def goQ (w:Web)(l:List Rat):List Rat:=(l.zip (n_ w)).map λ qd=>qd.1*U_ 1 qd.2
def m6 (w:Web)(l:List Rat)(p:Nat):List Rat:=(nb w.2 p).map λ j=>(goQ w l).getD j 0
def oX (w:Web)(l:List Rat):List Rat:=(U8 w.1).map λ p=>(m6 w l p).sum
structure ID (w:Web)(l:List Rat):Prop where
 len:l.length=w.1
 deg:∀ d∈n_ w,0<d/\d<=1000
 sm:∀ q∈l,sm q
 nb:∀ p<w.1,∀ j∈nb w.2 p,j<w.1
 tot:∀ p<w.1,tT 0 (m6 w l p)=My (m6 w l p).sum
def pJ (w:Web)(l:List Rat):Bool:=decide (l.length=w.1)&&((n_ w).all λ d=>decide (0<d/\d<=1000))&&(l.all λ q=>decide (sm q))&&((U8 w.1).all λ p=>(nb w.2 p).all λ j=>decide (j<w.1))&&((U8 w.1).all λ p=>decide (tT 0 (m6 w l p)=My (m6 w l p).sum))
theorem vz (w:Web)(l:List Rat):pJ w l=U6↔ID w l:=by unfold pJ;simp only[aP,decide_eq_true_eq,bF,aC];exact⟨λ⟨⟨⟨⟨a,b⟩,c⟩,d⟩,e⟩=>⟨a,b,c,d,e⟩,λ⟨a,b,c,d,e⟩=>⟨⟨⟨⟨a,b⟩,c⟩,d⟩,e⟩⟩
def dQt:Dt->gJ (List Rat)
 | .tup ds=>dQs ds
 | _=>U5
theorem Lq {d:Dt}{l:List Rat}(h:dQt d=My l):d=.tup (l.map hV):=by
 match d,h with
 | .tup ds,h=>rw[wg (show dQs ds=My l from h)]
@[simp] theorem Lr (l:List Rat):dQt (.tup (l.map hV))=My l:=AV l
def jk:List Dt->gJ Dt
 | [x,y]=>(dW x).bind λ w=>(dQt y).bind λ l=>if pJ w l=U6 then My (.tup ((oX w l).map hV)) else U5
 | _=>U5
def itQ (w:Web):Nat->List Rat->gJ (List Rat)
 | 0,l=>My l
 | k+1,l=>if pJ w l=U6 then itQ w k (oX w l) else U5
def unit (n p:Nat):List Rat:=(U8 n).map λ i=>if i=p then 1 else 0
def Fs:List Dt->gJ Dt
 | [x,y,z]=>(dW x).bind λ w=>(jU y).bind λ p=>(jU z).bind λ k=>if p<w.1/\k<=30 then (itQ w k (unit w.1 p)).map λ l=>.tup (l.map hV) else U5
 | _=>U5
def kZ (w:Web)(l:List Nat):List Nat:=(U8 w.1).map λ p=>((nb w.2 p).map λ j=>l.getD j 0).sum
def kL (w:Web)(a:Nat):Nat->List Nat
 | 0=>(U8 w.1).map λ i=>if i=a then 1 else 0
 | k+1=>kZ w (kL w a k)
def Cw (w:Web):Bool:=(U8 w.1).all λ p=>(nb w.2 p).all λ j=>decide (j<w.1)
def IE:List Dt->gJ Dt
 | [x,y,z,u]=>(dW x).bind λ w=>(jU y).bind λ a=>(jU z).bind λ b=>(jU u).bind λ k=>if a<w.1/\b<w.1/\k<=30/\Cw w=U6 then My (gR ((kL w a k).getD b 0)) else U5
 | _=>U5
abbrev mP:=uX
abbrev nh:=rG
abbrev nu:=pH
abbrev uZ:=lL
def kQ:DE->gJ RD:=(jc (yV (nc 2 3) (gT 0)) (jc (jB 4 (gLC ["share","degree"] [] (Li U6 U7 (gP (gT 1) (gP (hG 1 rH (gP (gT 0) gS)) gS))) (nc 0 1) jd (hG 2 rG (gP (gT 0) (gP (iX (gP (gC (.int 1)) (gP (gT 1) gS))) gS))))) (kc (iM pF (gP (gLC ["place"] [4,3] (jJ (gP (gT 2) gS)) (ggN 0) jd (hG 1 pH (gP (gLC ["near"] [1] (gI jE (hG 2 jq (gP (gT 2) (gP (gT 0) gS)))) (ggN 0) jd (g_ dIx (gT 1) (gT 0))) gS))) gS)))))
abbrev qR:List Str:=["web","shares","many","ties","going"]
def A1:DE->gJ RD:=(jc (nL (hG 1 mO (gP (gT 0) gS))) (jc (nL (hG 2 kg (gP (gT 0) (gP (gT 1) gS)))) (jc (nL (hG 2 jG (gP (gT 2) (gP (gC (.int 30)) gS)))) (jc (jB 3 (iM pF (gP (gLC ["other"] [1] (jJ (gP (g_ dIx (gT 0) (gC (.int 0))) gS)) (ggN 0) jd (gIf (gB (g_ lx (gT 0) (gT 1))) (gC Iv) (gC xF))) gS))) (jc (rY (jJ (gP (gT 2) gS)) (ggN 4) (jB 3 (hG 2 jk (gP (gT 0) (gP (gT 3) gS))))) (kc (gT 3)))))))
abbrev Ls:List Str:=["web","place","steps","shares","step"]
def D6:DE->gJ RD:=(jc (nL (hG 1 mO (gP (gT 0) gS))) (jc (nL (hG 2 kg (gP (gT 0) (gP (gT 1) gS)))) (jc (nL (hG 2 kg (gP (gT 0) (gP (gT 2) gS)))) (jc (nL (hG 2 jG (gP (gT 3) (gP (gC (.int 30)) gS)))) (jc (yV (nc 4 5) (gT 0)) (jc (jB 6 (gLC ["place"] [1] (jJ (gP (gT 4) gS)) (ggN 0) jd (gIf (gB (g_ lx (gT 0) (gT 1))) (gC (.int 1)) (gC (.int 0))))) (jc (rY (jJ (gP (gT 3) gS)) (ggN 7) (jB 6 (gLC ["place"] [6,5] (jJ (gP (gT 4) gS)) (ggN 0) jd (iM si (gP (gLC ["near"] [1] (gI jE (hG 2 jq (gP (gT 2) (gP (gT 0) gS)))) (ggN 0) jd (g_ dIx (gT 1) (gT 0))) gS))))) (kc (g_ dIx (gT 6) (gT 2))))))))))
abbrev OT:List Str:=["web","a","b","steps","many","ties","numbers","step"]
def vA:DE->gJ RD:=(kc (hG 2 uZ (gP (g_ (dI (·+·)) (g_ xB (g_ dIx (gT 0) (gC (.int 0))) (g_ dIx (gT 1) (gC (.int 1)))) (g_ xB (g_ dIx (gT 1) (gC (.int 0))) (g_ dIx (gT 0) (gC (.int 1))))) (gP (g_ xB (g_ dIx (gT 0) (gC (.int 1))) (g_ dIx (gT 1) (gC (.int 1)))) gS))))
abbrev Cy:List Str:=["_law_one","_law_other"]
def tY:DE->gJ RD:=(kc (hG 2 uZ (gP (g_ xB (g_ dIx (gT 0) (gC (.int 0))) (g_ dIx (gT 1) (gC (.int 0)))) (gP (g_ xB (g_ dIx (gT 0) (gC (.int 1))) (g_ dIx (gT 1) (gC (.int 1)))) gS))))
abbrev A2:List Str:=["_law_one","_law_other"]
def pK:DE->gJ RD:=(jc (jB 1 (iX (gP (gC (.int 0)) (gP (gC (.int 1)) gS)))) (jc (rY (gI jE (gT 0)) (ggN 2) (jB 1 (hG 2 mP (gP (gT 1) (gP (gT 2) gS))))) (kc (gT 1))))
abbrev A3:List Str:=["_law_some","_law_found","_law_one"]
theorem xH (w:Web):(n_ w).length=w.1:=by simp[n_]
theorem Gp {q:Rat}{d:Nat}(h1:sm q)(h2:0<d/\d<=1000):rG [hV q,.tup [.int 1,gR d]]=My (hV (q*U_ 1 d)):=by
 have hd:(0:Int)<d:=by lia
 have e:dQ (.tup [.int 1,gR d])=My (U_ 1 d):=by show(if 0<(d:Int)/\Int.gcd 1 d=1 then My (U_ 1 d) else U5)=_;rw[ai ⟨hd,by simp⟩]
 obtain⟨r1,r2⟩:=sH hd (show Int.gcd 1 (d:Int)=1 by simp);have s2:sm (U_ 1 d):=by
  refine⟨?_,?_⟩
  ·rw[r1];decide +kernel
  ·have:(U_ 1 d).den=d:=by lia
   rw[this];exact bN h2.2 (by decide +kernel)
 show(dQ (hV q)).bind (λ a=>(dQ (.tup [.int 1,gR d])).bind λ b=>if sm a/\sm b then My (hV (a*b)) else U5)=_;rw[xE,e,ak,ak,ai ⟨h1,s2⟩]
theorem getD_at {l:List Rat}{j:Nat}(h:j<l.length):atI (l.map hV) (j:Int)=My (hV (l.getD j 0)):=by have:=lJ (xs:=l.map hV) (j:=j) (v:=hV l[j]) (by simp[h]);rw[this,aq,aA h];rfl
set_option tactic.hygienic true in
theorem qv:Hg 2 qR jk kQ:=by
 intro ds d hl h;match ds,h with
 | [x,y],h =>
  obtain⟨w,e1,h⟩:=gU (show(dW x).bind _=_ from h);obtain⟨l,e2,h⟩:=gU h;split at h
  ·rename_i hc
   cases h;have ok:=(vz w l).mp hc;obtain⟨rfl,hg⟩:=oF e1;rw[Lq e2];refine⟨.rt (.tup ((oX w l).map hV)),?_,rfl⟩;have h8:=hg.mv;have e3:rH [h_ w]=My (.lst ((n_ w).map gR)):=by show(dW (h_ w)).map _=_;rw[e1];rfl
   have e4:H_ U6 U7 [.tup (l.map hV),.lst ((n_ w).map gR)]=My ((l.zip (n_ w)).map λ qd=>Dt.tup [hV qd.1,gR qd.2]):=by show My (((l.map hV).zip ((n_ w).map gR)).map λ(p,q)=>Dt.tup [p,q])=_;rw[List.zip_map,aU];rfl
   have lc1:=jo (enc:=λ qd:Rat×Nat=>Dt.tup [hV qd.1,gR qd.2]) (gg:=nc 0 1) (ge:=hG 2 rG (gP (gT 0) (gP (iX (gP (gC (.int 1)) (gP (gT 1) gS))) gS))) (δc:=[U5,U5]) (δa:=λ qd=>[My (hV qd.1),My (gR qd.2)]) (enc':=λ qd=>hV (qd.1*U_ 1 qd.2)) (l.zip (n_ w)) λ a ha=>⟨rfl,by have m1:=eS ha;have:=Gp (ok.sm a.1 m1.1) (ok.deg a.2 m1.2);simp[this]⟩
   have e5:(l.zip (n_ w)).map (λ qd=>hV (qd.1*U_ 1 qd.2))=(goQ w l).map hV:=by simp[goQ,br]
   rw[e5]at lc1;have gl:(goQ w l).length=w.1:=by simp[goQ,xH,ok.len]
   have inner:∀ p<w.1,hG 1 pH (gP (gLC ["near"] [1] (gI jE (hG 2 jq (gP (gT 2) (gP (gT 0) gS)))) (ggN 0) jd (g_ dIx (gT 1) (gT 0))) gS) [My (gR p),My (.lst ((goQ w l).map hV)),My (iK w.2)]=My (hV (m6 w l p).sum):=λ p hp=>by
    have lc2:=jo (enc:=gR) (gg:=ggN 0) (ge:=g_ dIx (gT 1) (gT 0)) (δc:=[U5,My (.lst ((goQ w l).map hV))]) (δa:=λ j=>[My (gR j),My (.lst ((goQ w l).map hV))]) (enc':=λ j=>hV ((goQ w l).getD j 0)) (nb w.2 p) λ j hj=>⟨rfl,by have:=getD_at (l:=goQ w l) (j:=j) (by rw[gl];exact ok.nb p hp j hj);generalize (goQ w l).map hV=zs at this ⊢;simp[gR,this]⟩
    have e6:(nb w.2 p).map (λ j=>hV ((goQ w l).getD j 0))=(m6 w l p).map hV:=by simp[m6,br]
    rw[e6]at lc2;have e7:pH [.lst ((m6 w l p).map hV)]=My (hV (m6 w l p).sum):=by show(dQs ((m6 w l p).map hV)).bind _=_;rw[AV,ak,ok.tot p hp];rfl
    have e8:=A0 hg.len p;have e9:(nb w.2 p).length<=1000:=by have:=D3 w.2 p;have:=hg.len;lia
    generalize (goQ w l).map hV=zs at lc2 ⊢;generalize (m6 w l p).map hV=us at lc2 e7;have e9:((nb w.2 p).map gR).length<=1000:=by rw[ah];exact e9
    generalize (nb w.2 p).map gR=vs at lc2 e8 e9;simp only[gR]at e8;simp[gR,e8,lc2,e7,e9]
   have lc3:=jo (enc:=gR) (gg:=ggN 0) (ge:=hG 1 pH (gP (gLC ["near"] [1] (gI jE (hG 2 jq (gP (gT 2) (gP (gT 0) gS)))) (ggN 0) jd (g_ dIx (gT 1) (gT 0))) gS)) (δc:=[U5,My (.lst ((goQ w l).map hV)),My (iK w.2)]) (δa:=λ p=>[My (gR p),My (.lst ((goQ w l).map hV)),My (iK w.2)]) (enc':=λ p=>hV (m6 w l p).sum) (U8 w.1) λ p hp=>⟨rfl,inner p (aC.mp hp)⟩;have e10:(U8 w.1).map (λ p=>hV (m6 w l p).sum)=(oX w l).map hV:=by simp[oX,br]
   rw[e10]at lc3;have e11:((l.zip (n_ w)).map λ qd=>Dt.tup [hV qd.1,gR qd.2]).length<=1000:=by simp[xH,ok.len];lia
   have e12:=jF (n:=w.1) (by lia);have e13:((U8 w.1).map gR).length<=1000:=by simp;lia
   have e12:oE [gR w.1]=My ((U8 w.1).map gR):=e12;generalize ((l.zip (n_ w)).map λ qd=>Dt.tup [hV qd.1,gR qd.2])=as at e4 lc1 e11;generalize (goQ w l).map hV=zs at lc1 lc3;generalize (oX w l).map hV=us at lc3 ⊢;generalize l.map hV=ls at e4 ⊢;generalize (n_ w).map gR=gs at e3 e4;generalize (U8 w.1).map gR=ns at lc3 e12 e13;unfold h_ at e3 ⊢;simp only[gR]at *;simp[kQ,e3,e4,lc1,e11,e12,e13,lc3]
  ·cases h
theorem wq {w:Web}(e:dW (h_ w)=My w):mO [h_ w]=My .non:=by show(dW (h_ w)).map _=_;rw[e];rfl
theorem nF {w:Web}(e:dW (h_ w)=My w){p:Nat}(h:p<w.1):kg [h_ w,gR p]=My .non:=by show(dW (h_ w)).bind (λ w=>(jU (gR p)).bind λ p=>if p<w.1 then My Dt.non else U5)=_;rw[e,jj,ak,ak,ai h]
theorem zP {k:Nat}(h:k<=30):jG [gR k,.int 30]=My .non:=by show(if 0<=(k:Int)/\(k:Int)<=30 then My Dt.non else U5)=_;rw[ai (by lia)]
theorem OU {w:Web}(e:dW (h_ w)=My w){l:List Rat}(h:pJ w l=U6):jk [h_ w,.tup (l.map hV)]=My (.tup ((oX w l).map hV)):=by show(dW (h_ w)).bind (λ w=>(dQt (.tup (l.map hV))).bind λ l=>if pJ w l=U6 then My (Dt.tup ((oX w l).map hV)) else U5)=_;rw[e,Lr,ak,ak,ai h]
set_option tactic.hygienic true in
theorem xI {w:Web}(e:dW (h_ w)=My w)(p k0:Dt):∀ (ns:List Nat) (l l':List Rat) (o:gJ Dt),itQ w ns.length l=My l' ->
  ∃ o',kO (ggN 4) (jB 3 (hG 2 jk (gP (gT 0) (gP (gT 3) gS)))) [My (h_ w),My p,My k0,My (.tup (l.map hV)),o] (ns.map gR)=My (.nx [My (h_ w),My p,My k0,My (.tup (l'.map hV)),o'])
 | [],l,l',o,h=>by cases h;exact⟨o,rfl⟩
 | n::r,l,l',o,h=>by
  have h:(if pJ w l=U6 then itQ w r.length (oX w l) else U5)=My l':=h;split at h
  ·rename_i hc;obtain⟨o',ih⟩:=xI e p k0 r (oX w l) l' (My (gR n)) h;refine⟨o',?_⟩;rw[<-ih];have:=OU e hc;generalize (oX w l).map hV=us at this ⊢;generalize l.map hV=ls at this ⊢;simp[kO,this]
  ·cases h
set_option tactic.hygienic true in
theorem IF:Hg 3 Ls Fs A1:=by
 intro ds d hl h;match ds,h with
 | [x,y,z],h =>
  obtain⟨w,e1,h⟩:=gU (show(dW x).bind _=_ from h);obtain⟨p,e2,h⟩:=gU h;obtain⟨k,e3,h⟩:=gU h;split at h
  ·rename_i hc
   obtain⟨l',e4,h⟩:=iA h;subst h;obtain⟨rfl,hg⟩:=oF e1;rw[ju e2,ju e3];refine⟨.rt (.tup (l'.map hV)),?_,rfl⟩;have h8:=hg.mv;have lc:=jo (enc:=gR) (gg:=ggN 0) (ge:=gIf (gB (g_ lx (gT 0) (gT 1))) (gC Iv) (gC xF)) (δc:=[U5,My (gR p)]) (δa:=λ i=>[My (gR i),My (gR p)]) (enc':=λ i=>hV (if i=p then 1 else 0)) (U8 w.1) λ i _=>⟨rfl,by
    simp only[gR,Ra,e_B,Ng,Nf,bE,aS,da,ak,Rg,Nh,ma];by_cases hi:i=p
    ·subst hi;simp[<-Q7]
    ·have:(i==p)=U7:=by simpa using hi
     simp[this,hi,<-Iw]⟩
   have e5:(U8 w.1).map (λ i=>hV (if i=p then 1 else 0))=(unit w.1 p).map hV:=by simp[unit,br]
   rw[e5]at lc;obtain⟨o',lp⟩:=xI e1 (gR p) (gR k) (U8 k) (unit w.1 p) l' U5 (by simpa using e4);have e12:oE [gR w.1]=My ((U8 w.1).map gR):=jF (n:=w.1) (by lia);have e13:((U8 w.1).map gR).length<=1000:=by simp;lia
   have e14:oE [gR k]=My ((U8 k).map gR):=jF (n:=k) (by lia);have c1:=wq e1;have c2:=nF e1 hc.1;have c3:=zP hc.2;generalize (U8 w.1).map gR=ns at lc e12 e13;generalize (U8 k).map gR=ks at lp e14;generalize (unit w.1 p).map hV=us at lc lp;generalize l'.map hV=vs at lp ⊢;unfold h_ at c1 c2 lp ⊢;simp only[gR]at *;simp[A1,c1,c2,c3,e12,e13,lc,e14,lp]
  ·cases h
theorem Cz (w:Web):Cw w=U6↔∀ p<w.1,∀ j∈nb w.2 p,j<w.1:=by unfold Cw;simp only[bF,aC,decide_eq_true_eq]
theorem u3:∀ l:List Nat,((l.map λ(x:Nat)=>(x:Int)).sum)=((l.sum:Nat):Int)
 | []=>rfl
 | a::r=>by simp[u3 r]
theorem wu {l:List Nat}{j:Nat}(h:j<l.length):atI (l.map gR) (j:Int)=My (gR (l.getD j 0)):=by have:=lJ (xs:=l.map gR) (j:=j) (v:=gR l[j]) (by simp[h]);rw[this,aq,aA h];rfl
theorem tZ (w:Web)(a:Nat):∀ k,(kL w a k).length=w.1
 | 0=>by simp[kL]
 | k+1=>by simp[kL,kZ]
theorem IG {w:Web}(hg:Good w)(hn:∀ p<w.1,∀ j∈nb w.2 p,j<w.1){l:List Nat}(hl:l.length=w.1) :
  rX (ggN 0) jd (iM si (gP (gLC ["near"] [1] (gI jE (hG 2 jq (gP (gT 2) (gP (gT 0) gS)))) (ggN 0) jd (g_ dIx (gT 1) (gT 0))) gS)) [U5,My (.lst (l.map gR)),My (iK w.2)] ((U8 w.1).map gR)=My ((kZ w l).map gR):=by
 have inner:∀ p<w.1,iM si (gP (gLC ["near"] [1] (gI jE (hG 2 jq (gP (gT 2) (gP (gT 0) gS)))) (ggN 0) jd (g_ dIx (gT 1) (gT 0))) gS) [My (gR p),My (.lst (l.map gR)),My (iK w.2)]=My (gR ((nb w.2 p).map λ j=>l.getD j 0).sum):=λ p hp=>by
  have lc2:=jo (enc:=gR) (gg:=ggN 0) (ge:=g_ dIx (gT 1) (gT 0)) (δc:=[U5,My (.lst (l.map gR))]) (δa:=λ j=>[My (gR j),My (.lst (l.map gR))]) (enc':=λ j=>gR (l.getD j 0)) (nb w.2 p) λ j hj=>⟨rfl,by have:=wu (l:=l) (j:=j) (by rw[hl];exact hn p hp j hj);generalize l.map gR=zs at this ⊢;simp only[gR]at this;simp[gR,this]⟩
  have e6:(nb w.2 p).map (λ j=>gR (l.getD j 0))=(((nb w.2 p).map λ j=>l.getD j 0).map λ(x:Nat)=>(x:Int)).map Dt.int:=by simp[gR,br]
  rw[e6]at lc2;have e7:si [.lst ((((nb w.2 p).map λ j=>l.getD j 0).map λ(x:Nat)=>(x:Int)).map Dt.int)]=My (gR ((nb w.2 p).map λ j=>l.getD j 0).sum):=by show(mM _).map _=_;rw[nE,cq,u3]
  have e8:=A0 hg.len p;have e9:(nb w.2 p).length<=1000:=by have:=D3 w.2 p;have:=hg.len;lia
  generalize ((((nb w.2 p).map λ j=>l.getD j 0).map λ(x:Nat)=>(x:Int)).map Dt.int)=us at lc2 e7;generalize l.map gR=zs at lc2 ⊢;have e9:((nb w.2 p).map gR).length<=1000:=by rw[ah];exact e9
  generalize (nb w.2 p).map gR=vs at lc2 e8 e9;simp only[gR]at e8;simp[gR,e8,lc2,e7,e9]
 have lc3:=jo (enc:=gR) (gg:=ggN 0) (ge:=iM si (gP (gLC ["near"] [1] (gI jE (hG 2 jq (gP (gT 2) (gP (gT 0) gS)))) (ggN 0) jd (g_ dIx (gT 1) (gT 0))) gS)) (δc:=[U5,My (.lst (l.map gR)),My (iK w.2)]) (δa:=λ p=>[My (gR p),My (.lst (l.map gR)),My (iK w.2)]) (enc':=λ p=>gR ((nb w.2 p).map λ j=>l.getD j 0).sum) (U8 w.1) λ p hp=>⟨rfl,inner p (aC.mp hp)⟩;rw[lc3];simp[kZ,br]
theorem zQ {w:Web}(hg:Good w)(hn:∀ p<w.1,∀ j∈nb w.2 p,j<w.1)(x a b k0:Dt)(a0:Nat):∀ (ns:List Nat) (k:Nat) (o:gJ Dt),
  ∃ o',kO (ggN 7) (jB 6 (gLC ["place"] [6,5] (jJ (gP (gT 4) gS)) (ggN 0) jd (iM si (gP (gLC ["near"] [1] (gI jE (hG 2 jq (gP (gT 2) (gP (gT 0) gS)))) (ggN 0) jd (g_ dIx (gT 1) (gT 0))) gS)))) [My x,My a,My b,My k0,My (gR w.1),My (iK w.2),My (.lst ((kL w a0 k).map gR)),o] (ns.map gR) =
   My (.nx [My x,My a,My b,My k0,My (gR w.1),My (iK w.2),My (.lst ((kL w a0 (k+ns.length)).map gR)),o'])
 | [],k,o=>⟨o,rfl⟩
 | n::r,k,o=>by
  obtain⟨o',ih⟩:=zQ hg hn x a b k0 a0 r (k+1) (My (gR n));refine⟨o',?_⟩;have h8:=hg.mv;have e12:oE [gR w.1]=My ((U8 w.1).map gR):=jF (n:=w.1) (by lia);have e13:((U8 w.1).map gR).length<=1000:=by simp;lia
  have tn:=IG hg hn (tZ w a0 k);have e1:k+(n::r).length=k+1+r.length:=by simp;lia
  rw[e1,<-ih];have e2:kL w a0 (k+1)=kZ w (kL w a0 k):=rfl;rw[e2];generalize (U8 w.1).map gR=ls at tn e12 e13;generalize (kZ w (kL w a0 k)).map gR=us at tn ⊢;generalize (kL w a0 k).map gR=zs at tn ⊢;rw[aI];generalize r.map gR=rs;simp only[gR]at *;simp[kO,e12,e13,tn]
set_option tactic.hygienic true in
theorem Lu:Hg 4 OT IE D6:=by
 intro ds d hl h;match ds,h with
 | [x,y,z,u],h =>
  obtain⟨w,e1,h⟩:=gU (show(dW x).bind _=_ from h);obtain⟨a,e2,h⟩:=gU h;obtain⟨b,e3,h⟩:=gU h;obtain⟨k,e4,h⟩:=gU h;split at h
  ·rename_i hc
   cases h;obtain⟨rfl,hg⟩:=oF e1;rw[ju e2,ju e3,ju e4];refine⟨.rt (gR ((kL w a k).getD b 0)),?_,rfl⟩;have h8:=hg.mv;have lc:=jo (enc:=gR) (gg:=ggN 0) (ge:=gIf (gB (g_ lx (gT 0) (gT 1))) (gC (.int 1)) (gC (.int 0))) (δc:=[U5,My (gR a)]) (δa:=λ i=>[My (gR i),My (gR a)]) (enc':=λ i=>gR (if i=a then 1 else 0)) (U8 w.1) λ i _=>⟨rfl,by
    simp only[gR,Ra,e_B,Ng,Nf,bE,aS,da,ak,Rg,Nh,ma];by_cases hi:i=a
    ·subst hi;simp
    ·have:(i==a)=U7:=by simpa using hi
     simp[this,hi]⟩
   have e5:(U8 w.1).map (λ i=>gR (if i=a then 1 else 0))=(kL w a 0).map gR:=by simp[kL,br]
   rw[e5]at lc;obtain⟨o',lp⟩:=zQ hg ((Cz w).mp hc.2.2.2) (h_ w) (gR a) (gR b) (gR k) a (U8 k) 0 U5;rw[show 0+(U8 k).length=k by simp]at lp;have fin:=wu (l:=kL w a k) (j:=b) (by rw[tZ];exact hc.2.1);have e12:oE [gR w.1]=My ((U8 w.1).map gR):=jF (n:=w.1) (by lia);have e13:((U8 w.1).map gR).length<=1000:=by simp;lia
   have e14:oE [gR k]=My ((U8 k).map gR):=jF (n:=k) (by lia);have c1:=wq e1;have c2:=nF e1 hc.1;have c2':=nF e1 hc.2.1;have c3:=zP hc.2.2.1;generalize (U8 w.1).map gR=ns at lc e12 e13;generalize (U8 k).map gR=ks at lp e14;generalize (kL w a 0).map gR=us at lc lp;generalize (kL w a k).map gR=vs at lp fin;unfold h_ at c1 c2 c2' lp ⊢;simp only[gR]at *;simp[D6,c1,c2,c2',c3,e12,e13,lc,e14,lp,fin]
  ·cases h
theorem A4:Hg 2 Cy mP vA:=Fp
theorem y_:Hg 2 A2 nh tY:=Cr
theorem za:Hg 1 A3 nu pK:=by
 intro ds d hl h;match ds,h with
 | [x],h =>obtain⟨xs,e1,h⟩:=gU (show(jE x).bind _=_ from h);obtain⟨l,e2,h⟩:=gU h;obtain⟨b,e3,h⟩:=iA h;subst h;have e2:=wg e2;subst e2;obtain⟨o',e4⟩:=sL x l 0 b U5 e3;refine⟨.rt (hV b),?_,rfl⟩;rw[Iw]at e4;have e4:kO (ggN 2) (jB 1 (hG 2 mP (gP (gT 1) (gP (gT 2) gS)))) [My x,My xF,U5] (l.map hV)=My (.nx [My x,My (hV b),o']):=e4;generalize l.map hV=zs at e1 e4;generalize hb:jB 1 (hG 2 mP (gP (gT 1) (gP (gT 2) gS)))=body at e4;unfold pK;rw[hb];simp[e1,e4]
def Nj (K:gK)(J:It)(H:Hp)(ds:List Dt):Prop:=∀ H',kA H H'->(∀ (i:Nat) d,ds[i]?=My d->J.go i H'/\∀ x H'',J.yld i H' x H''->H''=H'/\Is K H'' x d)/\J.stop ds.length H'
def iDT (K:gK)(g:DE->gJ (List Dt)):TI:=λ σ H R=>∃ δ ds,Sat K H σ δ/\g δ=My ds/\qJ ds/\∀ J H',g6 H H'->Nj K J H' ds->R J H'
section
variable {X:Cx}{e:Expr}{tg:Expr}
theorem Lv {g:DE->gJ Dt}(h:PD X e g):PI X tg e (iDT X.K (gI xA g)):=(Hi h).of λ σ H R hz1=>by obtain⟨δ,ds,S,q,im,k⟩:=hz1;obtain⟨x,e1,e2⟩:=gU q;have e2:=uV e2;subst e2;refine⟨δ,_,S,e1,λ v H1 s1 i1=>?_⟩;obtain⟨a,xs,rfl,hq,is⟩:=i1.iI;refine⟨a,rfl,⟨xs,hq⟩,k _ H1 s1 λ H2 s2=>⟨λ i d hd=>?_,⟨xs,s2.uT hq,by rw[is.length];exact aw _⟩⟩⟩;have is2:=is.text s2 im;obtain⟨v,hv,iv⟩:=is2.get hd;exact⟨⟨xs,v,s2.uT hq,hv⟩,λ x H3 hz2=>by obtain⟨e3,y⟩:=hz2;subst e3;have:=y xs (s2.uT hq);rw[hv]at this;cases this;exact⟨rfl,iv⟩⟩
theorem IH {K:gK}{J:It}{H0:Hp}{ds:List Dt}(ok:Nj K J H0 ds){g:TG}{tb:TS}{D:Ends}{σ:St}{H:Hp}(Pv:Nat->St->Hp->Prop)(h0:Pv 0 σ H)(hl:∀ i σ H,i<=ds.length->Pv i σ H->kA H0 H)
  (hs:∀ i d x σ H,ds[i]?=My d->Is K H x d->Pv i σ H->g x σ H λ σ2 H2=>tb {D with nx:=Pv (i+1),ct:=Pv (i+1),bk:=D.nx} σ2 H2) (hd:∀ σ H,Pv ds.length σ H->D.nx σ H) :
  ∃ W:Nat->Nat->St->Hp->Prop,(∃ m,W 0 m σ H)/\∀ i m σ H,W i m σ H ->
   (J.stop i H/\D.nx σ H)\/(J.go i H/\∃ N:St->Hp->Prop,(∀ σ' H',N σ' H'->∃ m',m'<m/\W (i+1) m' σ' H')/\∀ x H',J.yld i H x H'->g x σ H' λ σ2 H2=>tb {D with nx:=N,ct:=N,bk:=D.nx} σ2 H2):=by
 refine⟨λ i m σ H=>m=ds.length-i/\i<=ds.length/\Pv i σ H,⟨ds.length,by simp,aT _,h0⟩,?_⟩;rintro i m σ H ⟨rfl,hi,p⟩;obtain⟨items,stop⟩:=ok H (hl i σ H hi p);by_cases hlt:i<ds.length
 ·have hdi:ds[i]?=My ds[i]:=by simp[hlt]
  obtain⟨go,yld⟩:=items i _ hdi;refine .inr ⟨go,Pv (i+1),λ σ' H' p'=>⟨ds.length-(i+1),by lia,rfl,hlt,p'⟩,λ x H' y=>?_⟩;obtain⟨rfl,ix⟩:=yld x H' y;exact hs i _ x σ _ hdi ix p
 ·have e:i=ds.length:=by lia
  subst e;exact .inl ⟨stop,hd σ H p⟩
end
theorem oY (fd:gN)(k:Nat):sj fd k=U6↔k∈fd.map (·.1):=by unfold sj;simp[fA]
theorem xJ (fd:gN)(k:Nat):oQ (kvD (lM fd)) (Sum.inl (k:Int))=if sj fd k=U6 then My (.int (look fd k)) else U5:=by
 induction fd with
 | nil=>rfl
 | cons p r ih =>
  by_cases h:p.1=k
  ·have e1:oQ (kvD (lM (p::r))) (Sum.inl (k:Int))=My (.int p.2):=tq (p:=(Sum.inl (p.1:Int),V.int p.2)) (by rw[h])
   rw[e1];have e2:sj (p::r) k=U6:=by rw[oY];simp[h]
   have e3:look (p::r) k=p.2:=by unfold look;rw[aX];simp[h]
   rw[ai e2,e3]
  ·have hne:¬ (Sum.inl (p.1:Int):Key)=Sum.inl (k:Int):=λ q=>h (by have:=Sum.inl.inj q;lia)
   have e1:oQ (kvD (lM (p::r))) (Sum.inl (k:Int))=oQ (kvD (lM r)) (Sum.inl (k:Int)):=by show oQ ((Sum.inl (p.1:Int),V.int p.2)::kvD (lM r)) _=_;unfold oQ;rw[dE];have:decide ((Sum.inl (p.1:Int):Key)=Sum.inl (k:Int))=U7:=decide_eq_false hne;simp only[this]
   have e2:sj (p::r) k=sj r k:=by unfold sj;simp[h]
   have e3:look (p::r) k=look r k:=by
    unfold look;rw[aX];have:(k==p.1)=U7:=by simpa using aZ h
    rw[this]
   rw[e1,e2,e3,ih]
theorem II {fd:gN}{k:Nat}(v:Nat)(h:sj fd k=U7):putK (kvD (lM fd)) (Sum.inl (k:Int)) (.int v)=kvD (lM (fd++[(k,v)])):=by
 have e:oQ (kvD (lM fd)) (Sum.inl (k:Int))=U5:=by rw[xJ,h];rfl
 rw[Ht _ e];simp[kvD,lM]
def univ (l:gN)(s:Nat):List Nat:=s::(l.map (·.1)++l.map (·.2))
theorem pL {l:gN}{p j:Nat}:j∈nb l p↔(j,p)∈l\/(p,j)∈l:=by
 rw[(AZ l p).mem_iff,a_,aE,aE];simp only[bH,beq_iff_eq];constructor
 ·rintro (⟨⟨a,b⟩,⟨h1,h2⟩,rfl⟩ | ⟨⟨a,b⟩,⟨h1,h2⟩,rfl⟩)
  ·simp at h2;subst h2;exact .inl h1
  ·simp at h2;subst h2;exact .inr h1
 ·rintro (h | h)
  ·exact .inl ⟨(j,p),⟨h,rfl⟩,rfl⟩
  ·exact .inr ⟨(p,j),⟨h,rfl⟩,rfl⟩
theorem Ft {l:gN}{s p j:Nat}(h:j∈nb l p):j∈univ l s:=by
 refine ay _ ?_;rcases pL.mp h with h | h
 ·exact bc _ (aE.mpr ⟨_,h,rfl⟩)
 ·exact aR _ (aE.mpr ⟨_,h,rfl⟩)
structure BI (u:List Nat)(st:gN×List Nat):Prop where
 nd:(st.1.map (·.1)).Nodup
 sub:∀ q∈st.1,q.1∈u
 by':∀ j∈st.2,j∈st.1.map (·.1)
set_option tactic.hygienic true in
theorem zR {u:List Nat}{st:gN×List Nat}{p j:Nat}(h:BI u st)(hj:j∈u):BI u (je p st j):=by
 unfold je;split
 ·exact h
 ·rename_i hk
  have hk:j∉st.1.map (·.1):=λ m=>hk ((oY _ _).mpr m);refine⟨?_,?_,?_⟩
  ·rw[bu];exact AA h.nd hk
  ·intro q hq
   rcases a_.mp hq with z | z
   ·exact h.sub q z
   ·rw[bp.mp z];exact hj
  ·intro i hi
   rw[bu];rcases a_.mp hi with z | z
   ·exact bc _ (h.by' i z)
   ·rw[bp.mp z];exact aR _ (by simp)
theorem xK {st:gN×List Nat}{p j:Nat}:(je p st j).1.length+st.2.length=st.1.length+(je p st j).2.length:=by unfold je;split<;>simp<;>lia
theorem qS {st:gN×List Nat}{p j k:Nat}(h:k∈st.1.map (·.1)):k∈(je p st j).1.map (·.1):=by
 unfold je;split
 ·exact h
 ·rw[bu];exact bc _ h
theorem t_ {α:Type}{f:gN×List Nat->α->gN×List Nat}{u:List Nat}:∀ (xs:List α) {st:gN×List Nat},(∀ x∈xs,∀ st,BI u st->BI u (f st x))->BI u st->BI u (xs.foldl f st)
 | [],_,_,h=>h
 | x::r,_,hf,h=>t_ r (λ y hy=>hf y (ay _ hy)) (hf x aB _ h)
theorem qT {α:Type}{f:gN×List Nat->α->gN×List Nat}(hf:∀ st x,(f st x).1.length+st.2.length=st.1.length+(f st x).2.length):∀ (xs:List α) (st:gN×List Nat),(xs.foldl f st).1.length+st.2.length=st.1.length+(xs.foldl f st).2.length
 | [],_=>rfl
 | x::r,st=>by have h1:=hf st x;have h2:=qT hf r (f st x);rw[cu];lia
theorem nG {α:Type}{f:gN×List Nat->α->gN×List Nat}(hf:∀ st x k,k∈st.1.map (·.1)->k∈(f st x).1.map (·.1)):∀ (xs:List α) (st:gN×List Nat) (k:Nat),k∈st.1.map (·.1)->k∈(xs.foldl f st).1.map (·.1)
 | [],_,_,h=>h
 | x::r,st,k,h=>nG hf r (f st x) k (hf st x k h)
theorem CA {l:gN}{s p:Nat}{st:gN×List Nat}(h:BI (univ l s) st):BI (univ l s) (visit l st p):=t_ _ (λ _ hx _ hs=>zR hs (Ft hx)) h
theorem zS {l:gN}{p:Nat}(st:gN×List Nat):(visit l st p).1.length+st.2.length=st.1.length+(visit l st p).2.length:=qT (λ _ _=>xK) _ st
theorem sM {l:gN}{p:Nat}(st:gN×List Nat)(k:Nat)(h:k∈st.1.map (·.1)):k∈(visit l st p).1.map (·.1):=nG (λ _ _ _=>qS) _ st k h
theorem xM {l:gN}{s:Nat}{fd:gN}{iH:List Nat}(h:BI (univ l s) (fd,[])):BI (univ l s) (jS l fd iH):=t_ _ (λ _ _ _ hs=>CA hs) h
theorem u4 {l:gN}{fd:gN}{iH:List Nat}:(jS l fd iH).1.length=fd.length+(jS l fd iH).2.length:=by have:=qT (f:=visit l) (λ st p=>zS st) iH (fd,[]);unfold jS;simpa using this
theorem BI.le {u:List Nat}{st:gN×List Nat}(h:BI u st):st.1.length<=u.length:=by
 have h1:(st.1.map (·.1)).length<=u.length:=by
  have hs:∀ x∈st.1.map (·.1),x∈u:=λ x hx=>by obtain⟨q,hq,rfl⟩:=aE.mp hx;exact h.sub q hq
  exact aL h.nd hs
 simpa using h1
theorem ua (l:gN)(s:Nat):(univ l s).length=2*l.length+1:=by simp[univ];lia
theorem Lw {k:Nat}{A:Around}(hr:jI k A):A.units<cLine:=by have:=ip hr;lia
section
variable {K:gK}
theorem CB {g:DE->gJ Bool}(σ:St)(H:Hp)(Q Q':Bool->Hp->Prop)(h:∀ b H1,Q b H1->Q' b H1)(q:tDT K g σ H Q):tDT K g σ H Q':=by obtain⟨δ,b,S,e,k⟩:=q;exact⟨δ,b,S,e,λ H' s=>h b H' (k H' s)⟩
def intAt (i:Nat)(σ:St)(_:Hp):Nat:=match σ[i]? with
 | some (My (.int y))=>y.toNat
 | _=>0
theorem ub {H:Hp}{σ:St}{δ:DE}(S:Sat K H σ δ){i:Nat}{y:Nat}(h:δ[i]?=My (My (gR y)))(H':Hp):intAt i σ H'=y:=by obtain⟨v,hv,iv⟩:=S.at_ i _ h;unfold intAt;rw[hv,iv.int_inv];simp
theorem Fu (a:Int):(if a<0 then -a else a)=((a.natAbs:Nat):Int):=by split<;>lia
end
end L2
namespace L2
open PySem PySem.W PySem.Spec PyProof.Rows Tb
section
variable {X:Cx}
theorem vB:jy X (.type "range") (λ xs H Q=>∃ j:Int,xs=[V.int j]/\∀ p,H p=U5->Q (.ref p) (upd H p (.rng 0 j))):=by intro pins s σ H xs us Q I r h;obtain⟨j,rfl,q⟩:=h;obtain⟨u,rfl,t,rfl⟩:=vals1 r;refine call_range_1 ?_;have hn:=I.hok.fresh (aw s.heap.objs.size);exact⟨.ref s.heap.objs.size,_,I.laid (o:=.rng 0 j) (λ b o e=>ag _ e) (aw _) ⟨_,_,_,aF _ rfl⟩,rfl,q _ hn⟩
theorem xO (hc:X.calm=U6):jy X (.type "list") (λ xs H Q=>∃ (r:Addr) (n:Nat),xs=[V.ref r]/\H r=My (.rng 0 n)/\n<=1000/\∀ p,H p=U5->Q (.ref p) (upd H p (.lst ((U8 n).map λ(i:Nat)=>V.int i)))):=by
 intro pins s σ H xs us Q I r h;obtain⟨a,n,rfl,ha,hn,q⟩:=h;obtain⟨u,rfl,ru⟩:=vals1 r;cases ru;obtain⟨t,t',t'',e⟩:=I.hok a _ ha;have hsz:Builtin.Range.rangeSize 0 (n:Int) 1=n:=by rw[rangeSize_one];split<;>lia
 refine call_list_range (I.ok.hd hc) (show IsRange s.heap a 0 n 1 t t' t'' from e) (small_one (by lia) (by lia) (by lia) (by lia)) hsz (by lia) λ h' tk acc c kp ho ia=>?_;have hfr:=I.hok.fresh (aw s.heap.objs.size);refine⟨.ref s.heap.objs.size,_,I.laid (o:=.lst ((U8 n).map λ(i:Nat)=>V.int i)) kp (aw _) ⟨?_,acc.toList,c,?_,by simpa using ho⟩,rfl,q _ hfr⟩
 ·simp;rw[sizeLine_eq];lia
 ·obtain⟨i1,i2⟩:=ia
  have go:∀ (k:Nat) (l:List gL),l.length=k->(∀ (j:Nat) v,l[j]?=My v->∃ t,v=Value.int (0+(j:Int)*1) t)->Vals ((U8 k).map λ(i:Nat)=>V.int i) l:=by
   intro k;induction k with
   | zero=>intro l hl _;rw[cS.mp hl];exact .nil
   | succ k ih =>
    intro l hl hv;have e2:l=l.take k++[l[k]'(by lia)]:=by
     have h1:l.take (k+1)=l.take k++[l[k]'(by lia)]:=by rw[fq,aA (by lia)];rfl
     rw[<-h1,d_ (by lia)]
    rw[e2,gu,bu];refine Vals.append (ih _ (by rw[bX];lia) λ j v hj=>?_) (.cons ?_ .nil)
    ·by_cases hjk:j<k
     ·rw[eM hjk]at hj;exact hv j v hj
     ·rw[cA (by rw[bX];lia)]at hj;cases hj
    ·obtain⟨t,ht⟩:=hv k (l[k]'(by lia)) (by simp);exact⟨t,by rw[ht];congr 1;lia⟩
  exact go n acc.toList (by simpa using i1) λ j v hj=>i2 j v (by rw[<-bh];exact hj)
end
end L2
namespace L2
open PySem PySem.Spec PyProof.Rows Zp
section
variable {X:Cx}{a b e o:Expr}{es:List Expr}{pos:Pos}
def A5 (d:Dt):gJ Dt:=(tN d).bind λ j=>if 0<=j/\j<=1000 then My (.lst ((U8 j.toNat).map λ(k:Nat)=>.int k)) else U5
theorem IJ {ga:DE->gJ Dt}{p1 p2 pos2:Pos}(hc:X.calm=U6)(hl:X.mg "list"=U5)(hr:X.mg "range"=U5)(ha:PD X a ga)(g1:Gl X "list":=by rfl)(g2:Gl X "range":=by rfl)
  (hs:starEach [a] X.env=[(U7,eval a X.env)]:=by rfl) (hs2:starEach [Expr.Call (.Name "range" p2) [a] [] pos2] X.env=[(U7,eval (.Call (.Name "range" p2) [a] [] pos2) X.env)]:=by rfl) :
  PD X (.Call (.Name "list" p1) [.Call (.Name "range" p2) [a] [] pos2] [] pos) (gUn A5 ga) :=
 (kW (xO hc) g1 hl boot_list (gW (kW vB g2 hr boot_range (gW ha hZ hs) (he:=hs)) hZ hs2) (he:=hs2)).of λ σ H Q hz=>by
  obtain⟨δ,d,S,eq,q⟩:=hz;obtain⟨x,e1,f1⟩:=gU eq;obtain⟨j,e2,f2⟩:=gU f1;obtain rfl:=ly e2;by_cases hj:0<=j/\j<=1000
  ·rw[ai hj]at f2;cases f2;obtain⟨n,rfl⟩:∃ n:Nat,j=n:=⟨j.toNat,by lia⟩;refine⟨δ,_,S,e1,λ v H1 s1 i1=>⟨n,by rw[i1.int_inv],λ r hr0=>⟨r,n,rfl,gZ,by lia,λ l hl0=>q _ _ ((s1.trans (g6.upd hr0)).trans (g6.upd hl0)) (.lst gZ ?_)⟩⟩⟩;have:=Iss.E8 (K:=X.K) (H:=upd (upd H1 r (.rng 0 n)) l (.lst ((U8 n).map λ(i:Nat)=>V.int i))) ((U8 n).map λ(k:Nat)=>(k:Int));rw[aU,aU]at this;exact this
  ·rw[au hj]at f2;cases f2
end
structure Drawn (m:Nat)(cl:List Nat)(tb te:gN):Prop where
 m2:2<=m
 m8:m<=8
 perm:cl.Perm (U8 m)
 tbl:tb.length=m-1
 tbk:∀ k,k<m-1->∃ a,tb[k]?=My (a,k+1)/\a<=k
 teo:∀ t∈te,t.1<m/\t.2<m/\t.1≠t.2
 tel:te.length<=12
def rel (cl:List Nat)(t:Nat×Nat):Nat×Nat:=(min (cl.getD t.1 0) (cl.getD t.2 0),max (cl.getD t.1 0) (cl.getD t.2 0))
def keys (fd:gN):List Nat:=fd.map (·.1)
def Done (l:gN)(fd:gN)(k:Nat):Prop:=∀ j∈nb l k,j∈keys fd
set_option tactic.hygienic true in
theorem D7 {l:gN}(st:gN×List Nat)(p:Nat):Done l (visit l st p).1 p:=by
 intro j hj;unfold visit;have go:∀ (xs:List Nat) (st:gN×List Nat),j∈xs->j∈keys (xs.foldl (je p) st).1:=by
  intro xs;induction xs with
  | nil=>intro st h;cases h
  | cons x r ih =>
   intro st h;rw[cu];rcases aD.mp h with rfl | h
   ·refine nG (λ st p k hk=>qS hk) r _ j ?_
    unfold je;split
    ·rename_i hk;exact(oY _ _).mp hk
    ·rw[bu];exact aR _ (by simp)
   ·exact ih _ h
 exact go _ _ hj
theorem sN {l:gN}{fd:gN}:∀ (iH:List Nat) (st:gN×List Nat) (k:Nat),(k∈iH\/Done l st.1 k)->Done l (iH.foldl (visit l) st).1 k
 | [],st,k,h=>h.elim (λ z=>by cases z) id
 | e::r,st,k,h=>by
  rw[cu];refine sN (fd:=fd) r (visit l st e) k ?_;rcases h with h | h
  ·rcases aD.mp h with rfl | h
   ·exact .inr (D7 st k)
   ·exact .inl h
  ·exact .inr λ j hj=>sM st j (h j hj)
set_option tactic.hygienic true in
theorem Gq {l:gN}:∀ (iH:List Nat) (st:gN×List Nat) (k:Nat),k∈keys (iH.foldl (visit l) st).1->k∈keys st.1\/k∈(iH.foldl (visit l) st).2:=by
 have sub2:∀ (p:Nat) (xs:List Nat) (st:gN×List Nat) (k:Nat),k∈st.2->k∈(xs.foldl (je p) st).2:=by
  intro p xs;induction xs with
  | nil=>intro st k h;exact h
  | cons x r ih =>
   intro st k h;rw[cu];refine ih _ k ?_;unfold je;split
   ·exact h
   ·exact bc _ h
 have new1:∀ (p:Nat) (xs:List Nat) (st:gN×List Nat) (k:Nat),k∈keys (xs.foldl (je p) st).1->k∈keys st.1\/k∈(xs.foldl (je p) st).2:=by
  intro p xs;induction xs with
  | nil=>intro st k h;exact .inl h
  | cons x r ih =>
   intro st k h;rw[cu]at h ⊢;rcases ih _ k h with z | z
   ·unfold je at z
    split at z
    ·exact .inl z
    ·rw[keys,bu]at z
     rcases a_.mp z with y | y
     ·exact .inl y
     ·refine .inr (sub2 p r _ k ?_)
      unfold je;rename_i hk;rw[au hk];have:k=x:=by simpa using y
      rw[this];exact aR _ (by simp)
   ·exact .inr z
 intro iH;induction iH with
 | nil=>intro st k h;exact .inl h
 | cons e r ih =>
  intro st k h;rw[cu]at h ⊢;have sub:∀ (xs:List Nat) (st:gN×List Nat) (k:Nat),k∈st.2->k∈(xs.foldl (visit l) st).2:=by
   intro xs;induction xs with
   | nil=>intro st k h;exact h
   | cons x r ih=>intro st k h;rw[cu];exact ih _ k (sub2 x _ st k h)
  rcases ih _ k h with z | z
  ·rcases new1 e _ st k z with y | y
   ·exact .inl y
   ·exact .inr (sub r _ k y)
  ·exact .inr z
theorem pM {l:gN}{s:Nat}:∀ (m:Nat) (fd:gN) (iH:List Nat),BI (univ l s) (fd,iH)->(∀ k∈keys fd,k∈iH\/Done l fd k)->(iH≠[]->2*l.length+3<=m+fd.length) ->
  (∀ k∈keys (mr l m fd iH),Done l (mr l m fd iH) k)/\(∀ k∈keys fd,k∈keys (mr l m fd iH))/\BI (univ l s) (mr l m fd iH,[])
 | m,fd,[],bi,hd,_=>by
  have e:mr l m fd []=fd:=by cases m<;>rfl
  rw[e];exact⟨λ k hk=>(hd k hk).elim (λ z=>by cases z) id,λ k h=>h,⟨bi.nd,bi.sub,by simp⟩⟩
 | 0,fd,e::es,bi,hd,hf=>by have:=bi.le;rw[ua]at this;have h:=hf (by simp);have:fd.length<=2*l.length+1:=this;lia
 | m+1,fd,e::es,bi,hd,hf=>by
  have hf:=hf (by simp);have bi':BI (univ l s) (fd,[]):=⟨bi.nd,bi.sub,by simp⟩;have lb:=xM (iH:=e::es) bi';have ll:=u4 (l:=l) (fd:=fd) (iH:=e::es);obtain⟨h1,h2,h3⟩:=pM m (jS l fd (e::es)).1 (jS l fd (e::es)).2 ⟨lb.nd,lb.sub,lb.by'⟩ (λ k hk=>by
   rcases Gq (l:=l) (e::es) (fd,[]) k hk with z | z
   ·exact .inr (sN (fd:=fd) (e::es) (fd,[]) k (hd k z))
   ·exact .inl z) (λ hne=>by
   have:0<(jS l fd (e::es)).2.length:=dU.mpr hne;lia)
  exact⟨h1,λ k hk=>h2 k (nG (λ st p k hk=>sM st k hk) (e::es) (fd,[]) k hk),h3⟩
theorem wx {l:gN}{n:Nat}(ok:∀ p∈l,p.1<p.2/\p.2<n)(h0:0<n)(reach:∀ S:Nat->Prop,S 0->(∀ p∈l,S p.1↔S p.2)->∀ v,v<n->S v):(bfs l 0).length=n:=by
 obtain⟨h1,h2,h3⟩:=pM (l:=l) (s:=0) (2*l.length+2) [(0,0)] [0] ⟨by simp,λ q hq=>by rw[bp.mp hq];exact aB,λ j hj=>by simpa using hj⟩ (λ k hk=>.inl (by simpa [keys] using hk)) (λ _=>by simp);have e:mr l (2*l.length+2) [(0,0)] [0]=bfs l 0:=rfl;rw[e]at h1 h2 h3;have sub:∀ k∈keys (bfs l 0),k∈U8 n:=λ k hk=>by
  obtain⟨q,hq,rfl⟩:=aE.mp hk;rw[aC];have:=h3.sub q hq;rcases aD.mp this with z | z
  ·rw[z];exact h0
  ·rcases a_.mp z with z | z<;>(obtain⟨p,hp,e⟩:=aE.mp z;have:=ok p hp;rw[<-e];lia)
 have all:=reach (λ v=>v∈keys (bfs l 0)) (h2 0 (by simp[keys])) λ p hp=>⟨λ h=>h1 _ h _ (pL.mpr (.inr hp)),λ h=>h1 _ h _ (pL.mpr (.inl hp))⟩;have le1:(keys (bfs l 0)).length<=(U8 n).length:=aL h3.nd sub;have le2:(U8 n).length<=(keys (bfs l 0)).length:=aL cZ λ v hv=>all v (aC.mp hv);rw[cJ]at le1 le2;have:(keys (bfs l 0)).length=(bfs l 0).length:=by simp[keys]
 lia
theorem lz (p q:Nat×Nat):mX p q=U6↔p.1<q.1\/(p.1=q.1/\p.2<q.2):=by
 unfold mX;by_cases h1:(p.1:Int)=q.1
 ·have h1':p.1=q.1:=by lia
  by_cases h2:(p.2:Int)=q.2
  ·have h2':p.2=q.2:=by lia
   simp[HT.lexLt,h1,h2,h1',h2']
  ·simp[HT.lexLt,h1,h2,h1']
 ·have h1':¬ p.1=q.1:=by lia
  simp[HT.lexLt,h1,h1']
theorem A6:∀ {l:gN},l.Pairwise (λ a b=>mX a b=U6)->rise l=U6
 | [],_=>rfl
 | [_],_=>rfl
 | a::b::r,h=>by have h1:=(eX.mp h).1 b aB;have ih:=A6 (eX.mp h).2;unfold rise at ih ⊢;simp only[List.tail_cons,fP,List.all_cons,h1,Bool.true_and]at ih ⊢;exact ih
theorem CC {l:gN}(h:l.Pairwise (λ a b=>mX a b=U6)):l.Nodup:=by rw[aJ];refine h.imp λ{a b} hab e=>?_;subst e;have:=(lz a a).mp hab;lia
section
variable {m:Nat}{cl:List Nat}{tb te:gN}(D:Drawn m cl tb te)
include D
theorem Drawn.len:cl.length=m:=by rw[D.perm.length_eq,cJ]
theorem Drawn.lt {i:Nat}(h:i<m):cl.getD i 0<m:=by
 have hl:i<cl.length:=by rw[D.len];exact h
 rw[aq,aA hl];exact aC.mp (D.perm.mem_iff.mp (dZ hl))
theorem Drawn.inj {i j:Nat}(hi:i<m)(hj:j<m)(e:cl.getD i 0=cl.getD j 0):i=j:=by
 have h1:i<cl.length:=by rw[D.len];exact hi
 have h2:j<cl.length:=by rw[D.len];exact hj
 rw[aq,aA h1,aq,aA h2]at e;have nd:cl.Nodup:=D.perm.nodup_iff.mpr cZ;exact(List.getElem_inj nd).mp e
theorem Drawn.sur {v:Nat}(h:v<m):∃ i,i<m/\cl.getD i 0=v:=by obtain⟨i,hi,e⟩:=cf (D.perm.mem_iff.mpr (aC.mpr h));exact⟨i,by rw[<-D.len];exact hi,by rw[aq,aA hi];exact e⟩
theorem Drawn.all {t:Nat×Nat}(h:t∈tb++te):t.1<m/\t.2<m/\t.1≠t.2:=by
 rcases a_.mp h with h | h
 ·obtain⟨k,hk,e⟩:=cf h
  have hk':k<m-1:=by rw[<-D.tbl];exact hk
  obtain⟨a,e1,ha⟩:=D.tbk k hk';rw[aA hk,e]at e1;cases e1;exact⟨by show a<m;lia,by show k+1<m;lia,by show a≠k+1;lia⟩
 ·exact D.teo t h
theorem Drawn.Rj {t:Nat×Nat}(h:t∈tb++te):(rel cl t).1<(rel cl t).2/\(rel cl t).2<m:=by obtain⟨h1,h2,h3⟩:=D.all h;have l1:=D.lt h1;have l2:=D.lt h2;have ne:cl.getD t.1 0≠cl.getD t.2 0:=λ e=>h3 (D.inj h1 h2 e);unfold rel;simp only;lia
theorem Lx {ss:gN}(hp:ss.Pairwise (λ a b=>mX a b=U6))(hm:∀ t,t∈ss↔t∈(tb++te).map (rel cl)):Good (m,ss)/\(te=[]->ss.length+1=m):=by
 have m2:=D.m2;have m8:=D.m8;have nd:=CC hp;have ok:∀ p∈ss,p.1<p.2/\p.2<m:=λ p h=>by obtain⟨t,ht,rfl⟩:=aE.mp ((hm p).mp h);exact D.Rj ht
 have len1:ss.length<=((tb++te).map (rel cl)).length:=aL nd λ t h=>(hm t).mp h;have len2:ss.length<=30:=by have:=D.tel;have:=D.tbl;simp at len1;lia
 have tie:∀ k,k<m-1->∃ a,a<=k/\(a,k+1)∈tb:=λ k hk=>by obtain⟨a,e,ha⟩:=D.tbk k hk;exact⟨a,ha,bt e⟩
 refine⟨⟨m2,m8,ok,A6 hp,?_,len2,?_⟩,λ hte=>?_⟩
 ·refine wx ok (by lia) λ S s0 cls v hv=>?_
  have step:∀ k,k<m-1->∃ a,a<=k/\(S (cl.getD a 0)↔S (cl.getD (k+1) 0)):=λ k hk=>by
   obtain⟨a,ha,mem⟩:=tie k hk;refine⟨a,ha,?_⟩;have h:=cls (rel cl (a,k+1)) ((hm _).mpr (aE.mpr ⟨_,bc _ mem,rfl⟩));unfold rel at h;simp only at h;by_cases hc:cl.getD a 0<=cl.getD (k+1) 0
   ·rw[fL hc,f9 hc]at h;exact h
   ·rw[fC (by lia),gv (by lia)]at h;exact h.symm
  have con:∀ i,i<m->(S (cl.getD 0 0)↔S (cl.getD i 0)):=by
   intro i;induction i using Nat.strongRecOn with
   | ind i ih =>
    intro hi;cases i with
    | zero=>exact Iff.rfl
    | succ k =>obtain⟨a,ha,hs⟩:=step k (by lia);exact(ih a (by lia) (by lia)).trans hs
  obtain⟨i0,h0,e0⟩:=D.sur (v:=0) (by lia);obtain⟨i,hi,e⟩:=D.sur hv;rw[<-e];refine(con i hi).mp ((con i0 h0).mpr ?_);rw[e0];exact s0
 ·obtain⟨a,_,mem⟩:=tie 0 (by lia);intro e;have:=(hm (rel cl (a,0+1))).mpr (aE.mpr ⟨_,bc _ mem,rfl⟩);have e:ss=[]:=e;rw[e]at this;cases this
 ·subst hte
  rw[bB]at hm;have ndr:(tb.map (rel cl)).Nodup:=by
   rw[aJ,bq,b_];intro i j hi hj hij e;obtain⟨a,e1,ha⟩:=D.tbk i (by rw[<-D.tbl];exact hi);obtain⟨b,e2,hb⟩:=D.tbk j (by rw[<-D.tbl];exact hj);rw[aA hi]at e1;rw[aA hj]at e2;rw[ao e1,ao e2]at e;have hi':i<m-1:=by rw[<-D.tbl];exact hi
   have hj':j<m-1:=by rw[<-D.tbl];exact hj
   unfold rel at e;simp only[Prod.mk.injEq]at e;have hc:(cl.getD a 0=cl.getD b 0/\cl.getD (i+1) 0=cl.getD (j+1) 0)\/(cl.getD a 0=cl.getD (j+1) 0/\cl.getD (i+1) 0=cl.getD b 0):=by lia
   rcases hc with⟨c1,c2⟩ | ⟨c1,c2⟩
   ·have:=D.inj (by lia) (by lia) c2;lia
   ·have:=D.inj (by lia) (by lia) c1;have:=D.inj (by lia) (by lia) c2;lia
  have le2:(tb.map (rel cl)).length<=ss.length:=aL ndr λ t h=>(hm t).mpr h;have:=D.tbl;simp at len1 le2;show ss.length+1=m;lia
end
end L2
namespace L2
open PySem PySem.Spec PyProof.Rows
set_option genInjectivity false in
set_option genSizeOf false in
structure FnT (K:gK)(mg:gG)(n:Str)(s:Stmt)(ps:List Str) where
 f:Addr
 fd:FuncData
 F:Fun K n n s f fd
 m:mg n=My (.ref f)
 bb:∀ us:List gL,us.length=ps.length->bindArgs fd ⟨us,[]⟩=pure (ps.zip us)
theorem FnT.b {K:gK}{mg:gG}{n:Str}{s:Stmt}{ps:List Str}(t:FnT K mg n s ps):Binds K t.fd ps []:=.all t.bb
structure CtT (K:gK)(mg:gG)(n:Str)(d:Dt) where
 u:gL
 v:V
 m:mg n=My u
 r:RelV v u
 i:∀ H,Is K H v d
abbrev OkT {K:gK}{mg:gG}{n:Str}{s:Stmt}{ps:List Str}(P:Program)(w:World)(base:Heap)(t:FnT K mg n s ps)(k:Nat)(sp:Sp):Prop:=pg P w K mg base CX0 k t.f t.fd ps sp
theorem FnT.okD {P:Program}{w:World}{base:Heap}{K:gK}{mg:gG}{n:Str}{st:Stmt}{ps N:List Str}{k:Nat}{fD:List Dt->gJ Dt}{g:DE->gJ RD}(t:FnT K mg n st ps)(S:il N ps (gY st))
  (hbody:∀ (cdv:gL) (A:Around) (outer:List Env) (s:gM) (H:Hp) (E:XK),jI k (A.deeper (envOfC n (gY st) s.heap.objs.size t.f cdv)) ->
   PSs (qt CX0 P w K mg base N n (gY st) t.f cdv A outer s H E).nox (iU st) (tDS K g))
  (hg:∀ ds d,ds.length=ps.length->fD ds=My d->∃ r,g (nM N ds)=My r/\Gh r=d):OkT P w base t (k+1) (spD K ps.length fD):=t.F.okD S hbody hg
section
variable {X:Cx}{e:Expr}{es:List Expr}{pos p:Pos}{x:Str}{st:Stmt}{j k n:Nat}{ps:List Str}
theorem pC {sp:Sp}{t:TA}(T:FnT X.K X.mg x st ps)(F:pg X.prog X.w X.K X.mg X.base CX0 k T.f T.fd ps sp)(hr:jI j X.A)(ha:PA X (e::es) t)(hj:k<=j:=by decide)(hg:Gl X x:=by rfl)(hdb:(x==("__debug__":Str))=U7:=by decide)(he:starEach (e::es) X.env=(U7,eval e X.env)::starEach es X.env:=by rfl)(hpl:(backTo pos (starEach es X.env)).any (·.1)=U7:=by rfl) :
  PE X (.Call (.Name x p) (e::es) [] pos) (jD sp [] E0 t):=s_ F (hr.mono hj) hg T.m T.F.kp T.b .nil MY ha hdb he hpl
theorem dC {fD:List Dt->gJ Dt}{gs:DE->gJ (List Dt)}(t:FnT X.K X.mg x st ps)(F:pg X.prog X.w X.K X.mg X.base CX0 k t.f t.fd ps (spD X.K n fD))(hr:jI j X.A)(ha:PDs X (e::es) gs)(hj:k<=j:=by decide)(hg:Gl X x:=by rfl)(hdb:(x==("__debug__":Str))=U7:=by decide)(he:starEach (e::es) X.env=(U7,eval e X.env)::starEach es X.env:=by rfl)(hpl:(backTo pos (starEach es X.env)).any (·.1)=U7:=by rfl) :
  PD X (.Call (.Name x p) (e::es) [] pos) (hG n fD gs):=OB F (hr.mono hj) t.m t.F.kp t.b ha hg hdb he hpl
theorem dG {d:Dt}(c:CtT X.K X.mg x d)(hg:Gl X x:=by rfl)(hd:(x==("__debug__":Str))=U7:=by decide):PD X (.Name x pos) (gC d):=Ox c.m c.r c.i hg hd
theorem pgo (i:Nat)(hN:X.N.Nodup:=by trivial)(hi:X.N[i]?=My x:=by rfl)(hx:Loc X.env.scope x:=by trivial)(hf:X.fn x=U6\/X.env.scope.names.lookup x=My .local:=by trivial):PG X (.Name x pos) (iW i):=Kt hN hi hx hf
theorem csc {scope:Scope}(own fr:List Str)(ix:List Nat)(h1:scope.kind=.function:=by rfl)(h2:(scope.names.all λ x=>x.2 != .local || scope.names.lookup x.1==My .local)=U6:=by rfl)
  (h3:(scope.names.all λ x=>x.2 != .cell)=U6:=by rfl) (h4:(scope.names.all λ x=>x.2 != .free || (X.env.kindOf x.1==My .cell || X.env.kindOf x.1==My .free))=U6:=by rfl)
  (h5:(own.all λ x=>scope.names.lookup x==My .local)=U6:=by rfl) (h6:(fr.all λ x=>scope.names.lookup x==My .free)=U6:=by rfl) (h7:ix.map (λ i=>X.N[i]?)=fr.map My:=by rfl) (h8:(own++fr).Nodup:=by decide +kernel):lY X scope own fr ix:=OO h1 h2 h3 h4 h5 h6 h7 h8
end
theorem ls0 {P:List gL->Prop}(h:P [])(us:List gL)(e:us.length=0):P us:=by rw[d8 e];exact h
theorem lsS {P:List gL->Prop}{k:Nat}(h:∀ a us,us.length=k->P (a::us))(us:List gL)(e:us.length=k+1):P us:=by
 cases us with
 | nil=>cases e
 | cons a r=>exact h a r (Nat.succ.inj e)
theorem ls1 {P:List gL->Prop}(h:∀ a,P [a])(us:List gL)(e:us.length=1):P us:=lsS (k:=0) (λ a us e=>ls0 (P:=λ us=>P (a::us)) (h a) us e) us e
theorem ls2 {P:List gL->Prop}(h:∀ a b,P [a,b])(us:List gL)(e:us.length=2):P us:=lsS (k:=1) (λ a us e=>ls1 (P:=λ us=>P (a::us)) (h a) us e) us e
theorem ls3 {P:List gL->Prop}(h:∀ a b c,P [a,b,c])(us:List gL)(e:us.length=3):P us:=lsS (k:=2) (λ a us e=>ls2 (P:=λ us=>P (a::us)) (h a) us e) us e
theorem ls4 {P:List gL->Prop}(h:∀ a b c d,P [a,b,c,d])(us:List gL)(e:us.length=4):P us:=lsS (k:=3) (λ a us e=>ls3 (P:=λ us=>P (a::us)) (h a) us e) us e
section
variable {K:gK}{h:Heap}{mg:gG}{n:Str}(X:K.In h)(G:h.Ns mainGlobals mg)
def fnT {s:Stmt}{ps:List Str}{f:Addr}{od an:gJ Addr}{sl:Array (gJ gL)}{oc kV dc pm cd ct:gL}(a:PySem.W.nsIn K mainGlobals n=My (My (.ref f)))
  (l:K.lookup f=My ⟨oc,od,.func (PySem.W.fnOf n n (tw s) (iU s) (gY s) .none kV dc pm an cd ct),sl⟩) (c:PySem.W.codeIn K cd n=U6) (k:PySem.W.keepIn K (.ref f)=U6)
  (hb:∀ (kV dc pm:gL) (an:gJ Addr) (cd ct:gL) (us:List gL),us.length=ps.length->bindArgs (PySem.W.fnOf n n (tw s) (iU s) (gY s) .none kV dc pm an cd ct) ⟨us,[]⟩=pure (ps.zip us):=by first | exact λ _ _ _ _ _ _=>L2.ls1 λ _=>rfl | exact λ _ _ _ _ _ _=>L2.ls2 λ _ _=>rfl | exact λ _ _ _ _ _ _=>L2.ls3 λ _ _ _=>rfl | exact λ _ _ _ _ _ _=>L2.ls4 λ _ _ _ _=>rfl | exact λ _ _ _ _ _ _=>L2.ls0 rfl):FnT K mg n s ps :=
 ⟨f,_,Ol (st:=s) l c k,ee X G a,hb _ _ _ _ _ _⟩
def ctI {i:Int}{t:Tok}(a:PySem.W.nsIn K mainGlobals n=My (My (.int i t))):CtT K mg n (.int i):=⟨_,.int i,ee X G a,⟨_,rfl⟩,λ _=>.int _⟩
def ctP {i j:Int}{q:Addr}{t1 t2:Tok}{m:Nat}{s:Array (gJ gL)}(a:PySem.W.nsIn K mainGlobals n=My (My (.ref q)))(u:K.lookup q=My ⟨.type "tuple",U5,.seq #[.int i t1,.int j t2] m,s⟩):CtT K mg n (.tup [.int i,.int j]) :=
 ⟨_,.ref q,ee X G a,rfl,λ H=>Is.tup (xs:=[.int i,.int j]) (.inr ⟨_,_,_,u,⟨rfl,rfl⟩,rfl,by show 2<=sizeLine;decide,.cons ⟨_,rfl⟩ (.cons ⟨_,rfl⟩ .nil)⟩) (.cons (.int _) (.cons (.int _) .nil))⟩
end
open PySem.W Zp PySem.SeqAt Tb
def leP (a b:Nat×Nat):Bool:=!mX b a
def vW (l:gN):gN:=l.mergeSort leP
theorem rK (a b:Nat×Nat):leP a b=U6↔a.1<b.1\/(a.1=b.1/\a.2<=b.2):=by
 unfold leP;have:=lz b a;cases e:mX b a with
 | true=>rw[e]at this;simp at this ⊢;lia
 | false=>rw[e]at this;simp at this ⊢;lia
theorem u6 (l:gN):(vW l).Perm l:=List.mergeSort_perm l leP
theorem Fv (l:gN):(vW l).Pairwise λ a b=>leP a b=U6:=List.pairwise_mergeSort (λ a b c h1 h2=>by rw[rK]at *;lia) (λ a b=>by rw[Bool.or_eq_true,rK,rK];lia) l
theorem IK {a b:Nat×Nat}(h1:leP a b=U6)(h2:leP b a=U6):a=b:=by rw[rK]at h1 h2;exact gz (by lia) (by lia)
theorem zT {l m:gN}(h:m.Perm l)(hs:m.Pairwise λ a b=>leP a b=U6):m=vW l :=
 (h.trans (u6 l).symm).eq_of_pairwise (λ a b _ _ h1 h2=>IK h1 h2) hs (Fv l)
section
variable {X:Cx}{pins:gO}{σ:St}{H:Hp}{s:gM}
def xQ:List Dt->gJ Dt:=sG λ x=>(dTt x).bind λ l=>if l.length<64 then My (.lst ((vW l).map hJ)) else U5
theorem IL (a b:Nat×Nat):pLt ((a.1:Int),(a.2:Int)) ((b.1:Int),(b.2:Int))=mX a b:=by rw[bJ,pj,lz];simp;lia
theorem Ly {v:V}{t:Nat×Nat}(i:Is X.K H v (hJ t)):∃ b,v=.ref b/\SqT X.K H b [.int t.1,.int t.2]:=by obtain⟨b,xs,rfl,hs,is⟩:=i.iI;obtain⟨u,u',rfl,j0,j1⟩:=is.two;rw[j0.int_inv,j1.int_inv]at hs;exact⟨b,rfl,hs⟩
theorem Lz (I:Inv X pins σ H s){b:Addr}{i j:Int}(h:SqT X.K H b [.int i,.int j]):lV X.prog X.w s.heap [i,j] b:=by obtain⟨its,r,⟨o,e1,e2,n,e3⟩,_⟩:=I.tuple h;exact⟨o,its.toArray,n,e1,e2,e3,by simpa using pz (k:=[i,j]) r⟩
theorem OV {ys:List V}{l:gN}(is:Iss X.K H ys (l.map hJ)){j:Nat}(hj:j<l.length):∃ v,ys[j]?=My v/\Is X.K H v (hJ (l.getD j (0,0))):=by refine is.get (d:=hJ (l.getD j (0,0))) ?_;rw[aH,aq,aA hj];rfl
theorem Fw {K:gK}{H:Hp}{α:Type}{f:α->V}{g:α->Dt}:∀ {p:List α},(∀ i∈p,Is K H (f i) (g i))->Iss K H (p.map f) (p.map g)
 | [],_=>.nil
 | i::r,h=>.cons (h i aB) (Fw λ j hj=>h j (ay _ hj))
theorem Gr (hc:X.calm=U6):jy X (.builtin "sorted") (cD X.K xQ):=by
 intro pins s σ H xs us Q I rs hz;obtain⟨ds,d,is,e,q⟩:=hz;obtain⟨x,rfl,e1⟩:=kr e;obtain⟨l,e2,e3⟩:=gU e1;obtain rfl:=wk e2;clear e e1 e2;by_cases h64:l.length<64
 ·rw[ai h64]at e3
  cases e3;obtain⟨v,rfl,i⟩:=is.one;obtain⟨a,ys,rfl,ha,js⟩:=i.iI;obtain⟨u,rfl,ru⟩:=vals1 rs;cases ru;obtain⟨its,rv,pt,_⟩:=I.tuple ha;obtain⟨o,ho,hcl,nn,hda⟩:=id pt;have hyl:ys.length=l.length:=by rw[js.length,ah]
  have hvl:its.length=l.length:=by rw[<-rv.length,hyl]
  obtain⟨m,hm,_⟩:=id I.loc;have no:∀ b,(Att.jr s.heap).get? b=U5:=λ b=>cE (aT _);refine eJ kind_sorted plain_sorted entry_sorted (args_sorted1 _) ?_;unfold Builtin.«sorted»;refine ae (m:=checkCount "sorted" 1 1 _) (af (ae (wpAny_collect_seq a (.inr rfl) ho hcl hda (λ h1 hk=>?_) (by rw[ar,sizeLine_eq];lia))));have hal:its.toArray.toList.length=l.length:=hvl;have at_j:∀ j,j<l.length->∃ b,its.toArray.toList[j]?=My (.ref b)/\ys[j]?=My (.ref b)/\SqT X.K H b [.int (l.getD j (0,0)).1,.int (l.getD j (0,0)).2]:=λ j hj=>by obtain⟨v,e1,i1⟩:=OV js hj;obtain⟨b,rfl,hs⟩:=Ly i1;obtain⟨u,e2,r2⟩:=rv.get e1;cases r2;exact⟨b,e2,e1,hs⟩
  generalize its.toArray.toList=vs at hal at_j;refine ae (f7 ?_ (by rw[sizeLine_eq];lia));have hL:X.env.locals<h1.objs.size:=by obtain⟨oL,_,_,ho,_⟩:=hm;exact av (hk _ _ ho)
  have keep1:∀ b o,s.heap.get? b=My o->(h1.push {cls:=.type "list",data:=.seq vs.toArray}).get? b=My o:=λ b o e=>ag _ (hk b o e);have F1:Fr (Att.jr s.heap) X.env.locals (h1.push {cls:=.type "list",data:=.seq vs.toArray}) m:=⟨hm.at' λ o e=>keep1 _ o e,(λ b o e=>by rw[no]at e;cases e),aT _⟩;have N1:News (Att.jr s.heap) X.env.locals (h1.push {cls:=.type "list",data:=.seq vs.toArray}) (lH (Att.jr s.heap) s.heap X.env.locals):=λ p hp=>let ⟨a,_,c⟩:=ko hp;⟨keep1 _ _ c,a,no _⟩;have hD:(h1.push {cls:=.type "list",data:=.seq vs.toArray}).get? h1.objs.size=My (listOf vs.toArray 0):=aF _ rfl;have hneD:∀ p∈lH (Att.jr s.heap) s.heap X.env.locals,p.1≠h1.objs.size:=λ p hp=>let ⟨_,_,c⟩:=ko hp;aM (av (hk _ _ c));let kI:Nat->Int×Int:=λ i=>(((l.getD i (0,0)).1:Int),((l.getD i (0,0)).2:Int));have fin:∀ (p:List Nat) h2 c tk2,p.Perm (U8 l.length)->(p.map kI).Pairwise (λ a b=>pLt b a=U7)->Fr (Att.jr s.heap) X.env.locals h2 m->News (Att.jr s.heap) X.env.locals h2 ((h1.objs.size,listOf (List.toArray (p.map λ i=>vs.getD i Value.none)) c)::lH (Att.jr s.heap) s.heap X.env.locals) ->
    EP X pins σ Q (.ref h1.objs.size) {s with heap:=h2,toks:=tk2}:=λ p h2 c tk2 hlp hso F2 N2=>by
   have I2:Inv X pins σ H {s with heap:=h2,toks:=tk2}:=I.rB hm F2 λ p hp=>N2 p (ay _ hp);have hn:H h1.objs.size=U5:=by
    cases e:H h1.objs.size with
    | none=>rfl
    | some o =>obtain⟨o',ho'⟩:=xt (I.hok _ _ e);exact absurd (av (hk _ _ ho')) (aV _)
   have hlt:∀ i∈p,i<l.length:=λ i hi=>aC.mp (hlp.mem_iff.mp hi);let bo:Nat->V:=λ i=>ys.getD i .non;have hbo:∀ i,i<l.length->RelV (bo i) (vs.getD i Value.none)/\Is X.K H (bo i) (hJ (l.getD i (0,0))):=λ i hi=>by obtain⟨b,b1,b2,b3⟩:=at_j i hi;show RelV (ys.getD i .non) _/\Is X.K H (ys.getD i .non) _;rw[aq,aq,b1,b2];exact⟨rfl,.tup b3 (.cons (.int _) (.cons (.int _) .nil))⟩
   have new:jH X.prog X.w (upd H h1.objs.size (.lst (p.map bo))) h2 h1.objs.size (.lst (p.map bo)) :=
    ⟨by rw[ah,hlp.length_eq,cJ,sizeLine_eq];lia,p.map λ i=>vs.getD i Value.none,c,lO p λ i hi=>(hbo i (hlt i hi)).1,(N2 _ aB).1⟩
   have I3:Inv X pins σ (upd H h1.objs.size (.lst (p.map bo))) {s with heap:=h2,toks:=tk2}:=I2.B_ hn (bD I.ok.above (d9 hL)) (bU hL) (λ x c e z=>by
     obtain⟨v,o,ho,_⟩:=I.cell x c e;exact absurd (av (hk _ _ ho)) (by rw[z];exact aV _)) (λ p hp z=>by
     exact absurd (av (hk _ _ (I.pin p hp).1)) (by rw[z];exact aV _)) new
   have pm:(p.map λ i=>l.getD i (0,0)).Perm l:=by have:=hlp.map λ i=>l.getD i (0,0);rw[kq]at this;exact this
   have so:(p.map λ i=>l.getD i (0,0)).Pairwise λ a b=>leP a b=U6:=by rw[bq]at hso ⊢;refine hso.imp λ{i j} h=>?_;unfold leP;rw[<-IL];have h:pLt (kI j) (kI i)=U7:=h;rw[show pLt (((l.getD j (0,0)).1:Int),((l.getD j (0,0)).2:Int)) (((l.getD i (0,0)).1:Int),((l.getD i (0,0)).2:Int))=U7 from h];rfl
   have eq:=zT pm so;refine⟨.ref h1.objs.size,_,I3,rfl,q _ _ (g6.upd hn) (.lst gZ ?_)⟩;rw[<-eq,aU];have sm:g6 H (upd H h1.objs.size (.lst (p.map bo))):=g6.upd hn;exact Fw λ i hi=>(hbo i (hlt i hi)).2.ext sm
  refine ae (bQ ?_);by_cases h2:2<=vs.length
  ·refine sD (X:=kI) F1 (λ p hp=>?_) hneD h2 (by lia) (λ h' F' N' i v hv=>?_) λ p h' c P So F2 N2=>af ⟨_,rfl,?_⟩
   ·rcases aD.mp hp with rfl | hp
    ·exact⟨hD,bU hL,no _⟩
    ·exact N1 p hp
   ·have hi:i<l.length:=by
     have:=(aN.mp hv).1;lia
    obtain⟨b,b1,_,b3⟩:=at_j i hi;rw[hv]at b1;cases b1;refine⟨b,rfl,?_⟩;have I2:Inv X pins σ H {s with heap:=h',toks:=s.toks}:=I.rB hm F' N';exact Lz I2 b3
   ·rw[hal]at P So
    refine fin p.toList h' c _ P.2 ?_ F2 N2;rw[bq,b_];intro i j hi hj hij;have hjs:j<l.length:=by have:=P.size;simp at hj;lia
    have:=So i j (by lia) hjs;unfold KeyOrd.kle Kp at this;have gi:p.getD i 0=p.toList[i]:=by simp[Array.getD,show i<p.size by simpa using hi]
    have gj:p.getD j 0=p.toList[j]:=by simp[Array.getD,show j<p.size by simpa using hj]
    rw[gi,gj]at this;exact this
  ·refine sE hD (by lia) λ h' c kp hc'=>af ⟨_,rfl,?_⟩
   refine fin (U8 l.length) h' c _ (.refl _) ?_ ⟨F1.ns.at' λ o e=>kp _ o (aM hL) e,(λ b o e=>by rw[no]at e;cases e),aT _⟩ λ p hp=>?_
   ·have:((U8 l.length).map kI).length<2:=by simp;lia
    match (U8 l.length).map kI,this with
    | [],_=>exact .nil
    | [a],_=>exact dY _ _
   ·rcases aD.mp hp with rfl | hp
    ·refine⟨?_,bU hL,no _⟩;rw[<-hal,kq];exact hc'
    ·exact⟨kp _ _ (hneD p hp) (N1 p hp).1,(N1 p hp).2⟩
 ·rw[au h64]at e3;cases e3
end
end L2
namespace Qs
def S (n:Nat)(f:Nat->Nat):Nat:=((U8 n).map f).sum
theorem OW (f:Nat->Nat):S 0 f=0:=rfl
theorem lq (n:Nat)(f:Nat->Nat):S (n+1) f=S n f+f n:=by unfold S;rw[gu,bu,List.sum_append];simp
theorem kn {n:Nat}{f g:Nat->Nat}(h:∀ i,i<n->f i=g i):S n f=S n g:=by
 induction n with
 | zero=>rfl
 | succ n ih=>rw[lq,lq,ih λ i hi=>h i (by lia),h n (by lia)]
theorem Nk (n:Nat)(f g:Nat->Nat):S n (λ i=>f i+g i)=S n f+S n g:=by
 induction n with
 | zero=>rfl
 | succ n ih=>rw[lq,lq,lq,ih];lia
theorem CD (n c:Nat)(f:Nat->Nat):S n (λ i=>c*f i)=c*S n f:=by
 induction n with
 | zero=>rfl
 | succ n ih=>rw[lq,lq,ih,Nat.mul_add]
theorem Fx (n c:Nat)(f:Nat->Nat):S n (λ i=>f i*c)=S n f*c:=by
 induction n with
 | zero=>simp[S]
 | succ n ih=>rw[lq,lq,ih,Nat.add_mul]
theorem xS (n:Nat):S n (λ _=>0)=0:=by
 induction n with
 | zero=>rfl
 | succ n ih=>rw[lq,ih]
theorem IM (n m:Nat)(f:Nat->Nat->Nat):S n (λ i=>S m (λ j=>f i j))=S m (λ j=>S n λ i=>f i j):=by
 induction n with
 | zero=>exact(xS m).symm
 | succ n ih =>rw[lq,ih,<-Nk];refine kn λ j _=>?_;rw[lq]
theorem CF {n a:Nat}(h:a<n)(f:Nat->Nat):S n (λ i=>if i=a then f i else 0)=f a:=by
 induction n with
 | zero=>lia
 | succ n ih =>
  rw[lq];by_cases e:a=n
  ·subst e;rw[ai rfl];have:S a (λ i=>if i=a then f i else 0)=0:=(kn (g:=λ _=>0) λ i hi=>au (by lia)).trans (xS a);rw[this];lia
  ·rw[ih (by lia),au (aZ e)];rfl
theorem Rk {n:Nat}{f g:Nat->Nat}(h:∀ i,i<n->f i<=g i):S n f<=S n g:=by
 induction n with
 | zero=>exact aw _
 | succ n ih =>rw[lq,lq];have:=ih λ i hi=>h i (by lia);have:=h n (by lia);lia
section
variable (n:Nat)(A:Nat->Nat->Nat)(wt:Nat->Nat)
def it:Nat->Nat->Nat->Nat
 | 0,a,b=>if b=a then 1 else 0
 | k+1,a,b=>S n λ j=>A b j*wt j*it k a j
theorem IP (k:Nat){a b:Nat}(ha:a<n)(hb:b<n):it n A wt (k+1) a b=S n λ j=>A j a*wt a*it n A wt k j b:=by
 induction k generalizing b with
 | zero =>
  show S n (λ j=>A b j*wt j*(if j=a then 1 else 0))=S n λ j=>A j a*wt a*(if b=j then 1 else 0);have e1:S n (λ j=>A b j*wt j*(if j=a then 1 else 0))=S n λ j=>if j=a then A b j*wt j else 0:=kn λ j _=>by split<;>simp
  have e2:S n (λ j=>A j a*wt a*(if b=j then 1 else 0))=S n λ j=>if j=b then A j a*wt a else 0:=kn λ j _=>by
   by_cases h:b=j
   ·rw[ai h,ai h.symm];simp
   ·rw[au h,au (aZ h)];simp
  rw[e1,e2,CF ha,CF hb]
 | succ k ih =>show S n (λ j=>A b j*wt j*it n A wt (k+1) a j)=_;rw[kn λ j hj=>by rw[ih hj]];rw[kn λ j _=>(CD n (A b j*wt j) λ i=>A i a*wt a*it n A wt k i j).symm];rw[IM];refine kn λ i hi=>?_;show S n (λ j=>A b j*wt j*(A i a*wt a*it n A wt k i j))=A i a*wt a*S n (λ j=>A b j*wt j*it n A wt k i j);rw[<-CD];refine kn λ j _=>?_;rw[Nat.mul_left_comm]
theorem IQ {d:Nat->Nat}{C:Nat}(hd:∀ j,j<n->wt j*d j=C)(hA:∀ i j,i<n->j<n->A i j=A j i)(k:Nat){a b:Nat}(ha:a<n)(hb:b<n):d a*it n A wt k a b=d b*it n A wt k b a:=by
 induction k generalizing a b with
 | zero =>
  show d a*(if b=a then 1 else 0)=d b*(if a=b then 1 else 0);by_cases h:a=b
  ·subst h;rfl
  ·rw[au h,au (aZ h)];rfl
 | succ k ih =>
  rw[IP n A wt k ha hb];show d a*S n (λ j=>A j a*wt a*it n A wt k j b)=d b*S n (λ j=>A a j*wt j*it n A wt k b j);rw[<-CD,<-CD];refine kn λ j hj=>?_;have h1:=ih hj hb;have h2:=hd a ha;have h3:=hd j hj;rw[hA j a hj ha]
  calc d a*(A a j*wt a*it n A wt k j b)=A a j*(wt a*d a)*it n A wt k j b:=by grind
   _=A a j*(wt j*d j)*it n A wt k j b:=by rw[h2,h3]
   _=A a j*wt j*(d j*it n A wt k j b):=by grind
   _=A a j*wt j*(d b*it n A wt k b j):=by rw[h1]
   _=d b*(A a j*wt j*it n A wt k b j):=by grind
theorem OX {C:Nat}(hC:∀ j,j<n->S n (λ b=>A b j)*wt j=C)(k:Nat){a:Nat}(ha:a<n):S n (λ b=>it n A wt k a b)=C ^ k:=by
 induction k with
 | zero =>show S n (λ b=>if b=a then 1 else 0)=1;exact CF ha λ _=>1
 | succ k ih =>
  show S n (λ b=>S n (λ j=>A b j*wt j*it n A wt k a j))=_;rw[IM];rw[kn (g:=λ j=>C*it n A wt k a j) λ j hj=>by rw[<-hC j hj,<-Fx,<-Fx]]
  rw[CD,ih,eu,dM]
end
end Qs
namespace Dt0
section
variable (a:Nat->Nat->Int)
mutual
def Tz:Nat->Nat->Nat->Int
 | 0=>a
 | k+1=>λ i j=>if i=k then Tz k i j else (Tz k k k*Tz k i j-Tz k i k*Tz k k j) / fm k
def fm:Nat->Int
 | 0=>1
 | k+1=>Tz k k k
end
variable {a}
end
end Dt0
namespace L2
open PySem PySem.Spec PyProof.Rows Zp Qs
theorem D8 {a b c:Nat×Nat}(h1:mX a b=U6)(h2:mX b c=U6):mX a c=U6:=by rw[lz]at *;lia
theorem nv:∀ {l:gN},rise l=U6->l.Pairwise (λ a b=>mX a b=U6)
 | [],_=>.nil
 | [a],_=>dY _ _
 | a::b::r,h=>by
  have h':(mX a b&&rise (b::r))=U6:=h;rw[aP]at h';have ih:=nv h'.2;refine eX.mpr ⟨λ c hc=>?_,ih⟩;rcases aD.mp hc with rfl | hc
  ·exact h'.1
  ·exact D8 h'.1 ((eX.mp ih).1 c hc)
section
variable {w:Web}(g:Good w)
include g
theorem Good.nd:w.2.Nodup:=CC (nv g.rise)
theorem Good.IS (p:Nat):(nb w.2 p).Nodup:=by
 rw[(AZ w.2 p).nodup_iff,List.nodup_append];have inj1:((w.2.filter λ t=>t.2==p).map (·.1)).Nodup:=by
  rw[aJ,bq];have:=aJ.mp (g.nd.filter λ t=>t.2==p);refine eR ?_ this;intro a b ha hb hab e;have h1:a.2=p:=by simpa using (bH.mp ha).2
  have h2:b.2=p:=by simpa using (bH.mp hb).2
  exact hab (gz e (h1.trans h2.symm))
 have inj2:((w.2.filter λ t=>t.1==p).map (·.2)).Nodup:=by
  rw[aJ,bq];have:=aJ.mp (g.nd.filter λ t=>t.1==p);refine eR ?_ this;intro a b ha hb hab e;have h1:a.1=p:=by simpa using (bH.mp ha).2
  have h2:b.1=p:=by simpa using (bH.mp hb).2
  exact hab (gz (h1.trans h2.symm) e)
 refine⟨inj1,inj2,λ x hx y hy e=>?_⟩;obtain⟨t,ht,rfl⟩:=aE.mp hx;obtain⟨u,hu,rfl⟩:=aE.mp hy;have h1:t.2=p:=by simpa using (bH.mp ht).2
 have h2:u.1=p:=by simpa using (bH.mp hu).2
 have:=g.ok t (bH.mp ht).1;have:=g.ok u (bH.mp hu).1;lia
theorem Good.qm {p j:Nat}(h:j∈nb w.2 p):j<w.1/\p<w.1/\j≠p:=by
 rcases pL.mp h with h | h
 ·have:=g.ok _ h;simp at this;lia
 ·have:=g.ok _ h;simp at this;lia
omit g in
theorem D9 {l:gN}{p j:Nat}:j∈nb l p↔p∈nb l j:=by rw[pL,pL];exact Or.comm
theorem Good.D_ (p:Nat)(hp:p<w.1):(nb w.2 p).length<=7:=by
 have h:(p::nb w.2 p).Nodup:=bC.mpr ⟨λ m=>(g.qm m).2.2 rfl,g.IS p⟩;have:=aL h (l₂:=U8 w.1) λ x hx=>by
  rcases aD.mp hx with rfl | hx
  ·exact aC.mpr hp
  ·exact aC.mpr (g.qm hx).1
 simp at this;have:=g.mv;lia
end
theorem CG {l:gN}{s:Nat}:∀ (m:Nat) (fd:gN) (iH:List Nat),(∀ k∈keys fd,k=s\/∃ q,k∈nb l q)->∀ k∈keys (mr l m fd iH),k=s\/∃ q,k∈nb l q
 | 0,fd,_,h=>h
 | _+1,fd,[],h=>h
 | m+1,fd,e::es,h=>by
  refine CG m _ _ λ k hk=>?_;have v1:∀ (p:Nat) (xs:List Nat) (st:gN×List Nat),(∀ x∈xs,∃ q,x∈nb l q)->(∀ k∈keys st.1,k=s\/∃ q,k∈nb l q)->∀ k∈keys (xs.foldl (je p) st).1,k=s\/∃ q,k∈nb l q:=by
   intro p xs;induction xs with
   | nil=>intro st _ h;exact h
   | cons x r ih =>
    intro st hx h;rw[cu];refine ih _ (λ y hy=>hx y (ay _ hy)) λ k hk=>?_;unfold je at hk;split at hk
    ·exact h k hk
    ·rw[keys,bu]at hk
     rcases a_.mp hk with z | z
     ·exact h k z
     ·have:k=x:=by simpa using z
      rw[this];exact .inr (hx x aB)
  have v2:∀ (es:List Nat) (st:gN×List Nat),(∀ k∈keys st.1,k=s\/∃ q,k∈nb l q)->∀ k∈keys (es.foldl (visit l) st).1,k=s\/∃ q,k∈nb l q:=by
   intro es;induction es with
   | nil=>intro st h;exact h
   | cons x r ih=>intro st h;rw[cu];exact ih _ (v1 x _ st (λ y hy=>⟨x,hy⟩) h)
  exact v2 (e::es) (fd,[]) h k hk
theorem Good.wz {w:Web}(g:Good w)(p:Nat)(hp:p<w.1):0<(nb w.2 p).length:=by
 obtain⟨h1,h2,h3⟩:=pM (l:=w.2) (s:=0) (2*w.2.length+2) [(0,0)] [0] ⟨by simp,λ q hq=>by rw[bp.mp hq];exact aB,λ j hj=>by simpa using hj⟩ (λ k hk=>.inl (by simpa [keys] using hk)) (λ _=>by simp);have e:mr w.2 (2*w.2.length+2) [(0,0)] [0]=bfs w.2 0:=rfl;rw[e]at h1 h2 h3;have fn:=CG (l:=w.2) (s:=0) (2*w.2.length+2) [(0,0)] [0] (λ k hk=>.inl (by simpa [keys] using hk));rw[e]at fn;have two:=g.two;have all:∀ v,v<w.1->v∈keys (bfs w.2 0):=λ v hv=>by
  refine ba λ hn=>?_;have nd:(v::keys (bfs w.2 0)).Nodup:=bC.mpr ⟨hn,h3.nd⟩;have:=aL nd (l₂:=U8 w.1) λ x hx=>by
   rcases aD.mp hx with rfl | hx
   ·exact aC.mpr hv
   ·rcases fn x hx with z | ⟨q,hq⟩
    ·rw[z];exact aC.mpr (by lia)
    ·exact aC.mpr (g.qm hq).1
  have hl:(keys (bfs w.2 0)).length=w.1:=by rw[keys,ah];exact g.all
  simp[hl]at this;lia
 have some':∀ v,v<w.1->v≠0->0<(nb w.2 v).length:=λ v hv h0=>by
  rcases fn v (all v hv) with z | ⟨q,hq⟩
  ·exact absurd z h0
  ·exact List.length_pos_of_mem (D9.mp hq)
 by_cases h0:p=0
 ·subst h0
  refine ba λ hn=>?_;have hnil:nb w.2 0=[]:=cS.mp (by lia);have hb:bfs w.2 0=[(0,0)]:=by
   have:jS w.2 [(0,0)] [0]=([(0,0)],[]):=by show visit w.2 ([(0,0)],[]) 0=_;unfold visit;rw[hnil];rfl
   show mr w.2 ((2*w.2.length+1)+1) [(0,0)] [0]=_;show mr w.2 (2*w.2.length+1) (jS w.2 [(0,0)] [0]).1 (jS w.2 [(0,0)] [0]).2=_;rw[this];rfl
  have:=g.all;rw[hb]at this;simp at this;lia
 ·exact some' p hp h0
def adj (w:Web)(b j:Nat):Nat:=if j∈nb w.2 b then 1 else 0
theorem Nl {n:Nat}(f:Nat->Nat):∀ (xs:List Nat),xs.Nodup->(∀ x∈xs,x<n)->(xs.map f).sum=S n λ j=>if j∈xs then f j else 0
 | [],_,_=>by simp[xS]
 | x::r,nd,h=>by
  obtain⟨h1,h2⟩:=bC.mp nd;rw[aI,cQ,Nl f r h2 λ y hy=>h y (ay _ hy),<-CF (h x aB) f,<-Nk];refine kn λ j _=>?_;by_cases e:j=x
  ·subst e;simp[h1]
  ·simp[e]
section
variable {w:Web}(g:Good w)
include g
theorem Good.IT (b:Nat)(f:Nat->Nat):((nb w.2 b).map f).sum=S w.1 λ j=>adj w b j*f j:=by rw[Nl f _ (g.IS b) λ x hx=>(g.qm hx).1];exact kn λ j _=>by unfold adj;split<;>simp
theorem Good.A7 (i j:Nat):adj w i j=adj w j i:=by
 unfold adj;by_cases h:j∈nb w.2 i
 ·rw[ai h,ai (D9.mp h)]
 ·rw[au h,au λ z=>h (D9.mp z)]
def dg (w:Web)(j:Nat):Nat:=(nb w.2 j).length
theorem Good.LA (j:Nat):S w.1 (λ b=>adj w b j)=dg w j:=by
 have:=g.IT j λ _=>1;rw[kn λ b _=>g.A7 b j];have e:((nb w.2 j).map λ _=>1).sum=dg w j:=by unfold dg;induction nb w.2 j with
  | nil=>rfl
  | cons a r ih=>simp[ih];lia
 rw[<-e,this];exact kn λ i _=>by simp
def wt (w:Web)(j:Nat):Nat:=420 / dg w j
theorem Good.sO {j:Nat}(hj:j<w.1):wt w j*dg w j=420:=by
 have h1:=g.wz j hj;have h2:=g.D_ j hj;unfold wt;have h1:0<dg w j:=h1;have h2:dg w j<=7:=h2;generalize dg w j=d at *;match d,h1,h2 with
 | 1,_,_=>rfl
 | 2,_,_=>rfl
 | 3,_,_=>rfl
 | 4,_,_=>rfl
 | 5,_,_=>rfl
 | 6,_,_=>rfl
 | 7,_,_=>rfl
 | d+8,_,h=>lia
abbrev ch (w:Web)(k a b:Nat):Nat:=it w.1 (adj w) (wt w) k a b
abbrev wy (w:Web)(k a b:Nat):Nat:=it w.1 (adj w) (λ _=>1) k a b
theorem Good.OY (k:Nat){a:Nat}(ha:a<w.1):S w.1 (λ b=>ch w k a b)=420 ^ k:=OX _ _ _ (λ j hj=>by rw[g.LA j,dM];exact g.sO hj) k ha
theorem Good.IU (k:Nat){a b:Nat}(ha:a<w.1)(hb:b<w.1):dg w a*ch w k a b=dg w b*ch w k b a:=IQ _ _ _ (d:=dg w) (λ j hj=>g.sO hj) (λ i j _ _=>g.A7 i j) k ha hb
theorem Good.OZ (k:Nat){a b:Nat}(ha:a<w.1)(hb:b<w.1):wy w k a b=wy w k b a:=by have:=IQ w.1 (adj w) (λ _=>1) (d:=λ _=>1) (C:=1) (λ j _=>rfl) (λ i j _ _=>g.A7 i j) k ha hb;simpa using this
theorem Good.A8 (a:Nat):∀ (k b:Nat),b<w.1->(kL w a k).getD b 0=wy w k a b
 | 0,b,hb=>by unfold kL;rw[aq,aH,cL hb];rfl
 | k+1,b,hb=>by have ih:=Good.A8 a k;show(kZ w (kL w a k)).getD b 0=_;unfold kZ;rw[aq,aH,cL hb];show((nb w.2 b).map λ j=>(kL w a k).getD j 0).sum=_;rw[g.IT b];show _=S w.1 λ j=>adj w b j*1*wy w k a j;exact kn λ j hj=>by rw[ih j hj,Nat.mul_one]
end
structure Fy (l:gN)(s c:Nat)(fd:gN)(iH:List Nat):Prop where
 start:(s,0)∈fd
 nd:(keys fd).Nodup
 le:∀ q∈fd,q.2<=c
 iH:∀ v,v∈iH↔(v,c)∈fd
 cl:∀ q∈fd,q.2<c->∀ u∈nb l q.1,∃ d,(u,d)∈fd/\d<=q.2+1
 par:∀ q∈fd,(q.2=0/\q.1=s)\/∃ u d,(u,d)∈fd/\q.2=d+1/\q.1∈nb l u
 ord:fd.Pairwise (λ a b=>a.2<=b.2)
theorem CH:∀ {fd:gN} {v d:Nat},(keys fd).Nodup->(v,d)∈fd->look fd v=d
 | q::r,v,d,nd,h=>by
  obtain⟨k,e⟩:=q;have nd:(k::keys r).Nodup:=nd;rw[bC]at nd;by_cases hk:v=k
  ·subst hk
   rcases aD.mp h with h | h
   ·cases h;simp[look,List.lookup]
   ·exact absurd (aE.mpr ⟨_,h,rfl⟩) nd.1
  ·rcases aD.mp h with h | h
   ·cases h;exact absurd rfl hk
   ·have:=CH nd.2 h
    unfold look at this ⊢;rw[aX];have:(v==k)=U7:=by simpa using hk
    rw[this];assumption
structure Mid (l:gN)(c:Nat)(fd:gN)(st:gN×List Nat)(nw:gN):Prop where
 eq:st.1=fd++nw
 by':st.2=nw.map (·.1)
 nd:(keys st.1).Nodup
 val:∀ q∈nw,q.2=c+1/\∃ u,(u,c)∈fd/\q.1∈nb l u
set_option tactic.hygienic true in
theorem Mid.one {l:gN}{c:Nat}{fd:gN}{st:gN×List Nat}{nw:gN}(h:Mid l c fd st nw){p j:Nat}(hp:(p,c)∈fd)(hj:j∈nb l p):∃ nw',Mid l c fd (je p st j) nw':=by
 unfold je;split
 ·exact⟨nw,h⟩
 ·rename_i hk
  have hk:j∉keys st.1:=λ m=>hk ((oY _ _).mpr m);have e:look st.1 p=c:=CH h.nd (by rw[h.eq];exact bc _ hp);refine⟨nw++[(j,look st.1 p+1)],⟨?_,?_,?_,?_⟩⟩
  ·show st.1++_=_;rw[h.eq,cy]
  ·show st.2++[j]=_;rw[h.by',bu];rfl
  ·show(keys (st.1++_)).Nodup;rw[keys,bu];exact AA h.nd hk
  ·intro q hq
   rcases a_.mp hq with z | z
   ·exact h.val q z
   ·rw[bp.mp z,e];exact⟨rfl,p,hp,hj⟩
theorem Mid.vis {l:gN}{c:Nat}{fd:gN}{p:Nat}(hp:(p,c)∈fd):∀ (xs:List Nat) (st:gN×List Nat) (nw:gN),(∀ j∈xs,j∈nb l p)->Mid l c fd st nw->∃ nw',Mid l c fd (xs.foldl (je p) st) nw'
 | [],st,nw,_,h=>⟨nw,h⟩
 | x::r,st,nw,hx,h=>by obtain⟨nw',h'⟩:=h.one hp (hx x aB);exact Mid.vis hp r _ nw' (λ j hj=>hx j (ay _ hj)) h'
theorem Mid.lay {l:gN}{c:Nat}{fd:gN}:∀ (es:List Nat) (st:gN×List Nat) (nw:gN),(∀ p∈es,(p,c)∈fd)->Mid l c fd st nw->∃ nw',Mid l c fd (es.foldl (visit l) st) nw'
 | [],st,nw,_,h=>⟨nw,h⟩
 | x::r,st,nw,hx,h=>by obtain⟨nw',h'⟩:=Mid.vis (hx x aB) (nb l x) st nw (λ _ h=>h) h;exact Mid.lay r _ nw' (λ j hj=>hx j (ay _ hj)) h'
theorem Fy.step {l:gN}{s c:Nat}{fd:gN}{iH:List Nat}(h:Fy l s c fd iH):Fy l s (c+1) (jS l fd iH).1 (jS l fd iH).2:=by
 obtain⟨nw,m⟩:=Mid.lay iH (fd,[]) [] (λ p hp=>(h.iH p).mp hp) ⟨by simp,rfl,h.nd,λ q hq=>by cases hq⟩;have m:Mid l c fd (jS l fd iH) nw:=m;have dn:=λ k (hk:k∈iH)=>sN (l:=l) (fd:=fd) iH (fd,[]) k (.inl hk);have dn:∀ k∈iH,Done l (jS l fd iH).1 k:=dn;have mem:∀ q,q∈(jS l fd iH).1↔q∈fd\/q∈nw:=λ q=>by rw[m.eq,a_]
 have le1:∀ q∈(jS l fd iH).1,q.2<=c+1:=λ q hq=>by
  rcases (mem q).mp hq with z | z
  ·have:=h.le q z;lia
  ·have:=(m.val q z).1;lia
 refine⟨(mem _).mpr (.inl h.start),m.nd,le1,λ v=>?_,λ q hq lt u hu=>?_,λ q hq=>?_,?_⟩
 ·rw[m.by',aE]
  constructor
  ·rintro⟨q,hq,rfl⟩;have:=(m.val q hq).1;rw[<-this];exact(mem _).mpr (.inr hq)
  ·intro hv
   rcases (mem _).mp hv with z | z
   ·have:=h.le _ z;simp at this;lia
   ·exact⟨_,z,rfl⟩
 ·rcases (mem q).mp hq with z | z
  ·by_cases hc:q.2<c
   ·obtain⟨d,hd,hle⟩:=h.cl q z hc u hu;exact⟨d,(mem _).mpr (.inl hd),hle⟩
   ·have e:q.2=c:=by have:=h.le q z;lia
    have hk:q.1∈iH:=(h.iH _).mpr (by rw[<-e];exact z);have:=dn q.1 hk u hu;obtain⟨q',hq',rfl⟩:=aE.mp this;exact⟨q'.2,hq',by rw[e];exact le1 q' hq'⟩
  ·have:=(m.val q z).1;lia
 ·rcases (mem q).mp hq with z | z
  ·rcases h.par q z with y | ⟨u,d,h1,h2,h3⟩
   ·exact .inl y
   ·exact .inr ⟨u,d,(mem _).mpr (.inl h1),h2,h3⟩
  ·obtain⟨e,u,hu,hn⟩:=m.val q z;exact .inr ⟨u,c,(mem _).mpr (.inl hu),e,hn⟩
 ·rw[m.eq,List.pairwise_append]
  refine⟨h.ord,?_,λ a ha b hb=>?_⟩
  ·rw[b_];intro i j hi hj _;have:=(m.val _ (dZ hi)).1;have:=(m.val _ (dZ hj)).1;lia
  ·have:=h.le a ha;have:=(m.val b hb).1;lia
structure Far (l:gN)(s:Nat)(fd:gN):Prop where
 start:(s,0)∈fd
 nd:(keys fd).Nodup
 cl:∀ q∈fd,∀ u∈nb l q.1,∃ d,(u,d)∈fd/\d<=q.2+1
 par:∀ q∈fd,(q.2=0/\q.1=s)\/∃ u d,(u,d)∈fd/\q.2=d+1/\q.1∈nb l u
 ord:fd.Pairwise (λ a b=>a.2<=b.2)
theorem zU {l:gN}{s:Nat}:∀ (m c:Nat) (fd:gN) (iH:List Nat),BI (univ l s) (fd,iH)->Fy l s c fd iH->(iH≠[]->2*l.length+3<=m+fd.length)->Far l s (mr l m fd iH)
 | m,c,fd,[],bi,h,_=>by
  have e:mr l m fd []=fd:=by cases m<;>rfl
  rw[e];exact⟨h.start,h.nd,λ q hq=>h.cl q hq (by
   have:=h.le q hq;rcases Nat.lt_or_ge q.2 c with z | z
   ·exact z
   ·have e:q.2=c:=by lia
    have:=(h.iH q.1).mpr (by rw[<-e];exact hq);cases this),h.par,h.ord⟩
 | 0,c,fd,e::es,bi,h,hf=>by have:=bi.le;rw[ua]at this;have h:=hf (by simp);have:fd.length<=2*l.length+1:=this;lia
 | m+1,c,fd,e::es,bi,h,hf=>by have hf:=hf (by simp);have bi':BI (univ l s) (fd,[]):=⟨bi.nd,bi.sub,by simp⟩;have lb:=xM (iH:=e::es) bi';have ll:=u4 (l:=l) (fd:=fd) (iH:=e::es);exact zU m (c+1) (jS l fd (e::es)).1 (jS l fd (e::es)).2 ⟨lb.nd,lb.sub,lb.by'⟩ h.step (λ hne=>by have:0<(jS l fd (e::es)).2.length:=dU.mpr hne;lia)
theorem LB (l:gN)(s:Nat):Far l s (bfs l s):=by refine zU (2*l.length+2) 0 [(s,0)] [s] ⟨by simp,λ q hq=>by rw[bp.mp hq];exact aB,λ j hj=>by simpa using hj⟩ ?_ (λ _=>by simp);refine⟨by simp,by simp[keys],λ q hq=>by simp at hq;rw[hq];simp,λ v=>by simp,λ q hq lt=>by lia,λ q hq=>by simp at hq;rw[hq];simp,by simp⟩
theorem Far.sub {l:gN}{s:Nat}{fd:gN}(f:Far l s fd)(S:Nat->Prop)(s0:S s)(cl:∀ u v,v∈nb l u->S u->S v):∀ (d v:Nat),(v,d)∈fd->S v
 | 0,v,h=>by
  rcases f.par _ h with⟨_,e⟩ | ⟨u,d,_,e,_⟩
  ·rw[show v=s from e];exact s0
  ·simp at e
 | d+1,v,h=>by
  rcases f.par _ h with⟨e,_⟩ | ⟨u,d',h1,e,hn⟩
  ·simp at e
  ·simp at e;subst e;exact cl u v hn (Far.sub f S s0 cl d u h1)
section
variable {w:Web}(g:Good w)
include g
end
section
variable {w:Web}(g:Good w)
include g
end
def xT (a b:Nat):Nat×Nat:=(min a b,max a b)
section
variable {w:Web}(g:Good w)
include g
theorem Good.O1 {u v:Nat}:v∈nb w.2 u↔xT u v∈w.2:=by
 rw[pL];unfold xT;constructor
 ·rintro (h | h)
  ·have:=g.ok _ h;simp at this;rw[fC (by lia),gv (by lia)];exact h
  ·have:=g.ok _ h;simp at this;rw[fL (by lia),f9 (by lia)];exact h
 ·intro h
  rcases Nat.le_total u v with z | z
  ·rw[fL z,f9 z]at h;exact .inr h
  ·rw[fC z,gv z]at h;exact .inl h
variable (tr:w.2.length+1=w.1)
include tr
end
section
variable {w:Web}(g:Good w)
include g
variable (tr:w.2.length+1=w.1)
include tr
end
section
variable {w:Web}(g:Good w)
include g
variable (tr:w.2.length+1=w.1)
include tr
end
section
variable {w:Web}(g:Good w)(tr:w.2.length+1=w.1)
include g tr
end
theorem CI (a b:Nat×Nat):dEq (hJ a) (hJ b)=(a==b):=by
 have:dEq (hJ a) (hJ b)=(((a.1:Int)==(b.1:Int))&&(((a.2:Int)==(b.2:Int))&&U6)):=by simp[hJ,gR,dEq,ng]
 rw[this,ma,ma,eg];rfl
theorem IV (a b:Nat):Fl [gR a,gR b]=My (gR (min a b)):=by show My (Dt.int (if (b:Int)<(a:Int) then (b:Int) else (a:Int)))=My (.int ((min a b:Nat):Int));congr 2;split<;>lia
theorem IW (a b:Nat):Fm [gR a,gR b]=My (gR (max a b)):=by show My (Dt.int (if (b:Int)>(a:Int) then (b:Int) else (a:Int)))=My (.int ((max a b:Nat):Int));congr 2;split<;>lia
theorem IX (k:Nat)(l:List Nat):qu (gR k) (l.map gR)=decide (k∈l):=by unfold qu;rw[bJ,List.any_map];simp[gR,dEq,br];exact⟨λ⟨x,hx,e⟩=>(show x=k by lia)▸hx,λ h=>⟨k,h,rfl⟩⟩
theorem LC (neg:Bool)(k:Nat)(l:List Nat):dIn neg (gR k) (.tup (l.map gR))=My (.bl (if neg then !decide (k∈l) else decide (k∈l))):=by show(if ((l.map gR).all λ e=>sh2 e (gR k))=U6 then My (Dt.bl (if neg then !qu (gR k) (l.map gR) else qu (gR k) (l.map gR))) else U5)=_;rw[ai (by rw[fk,bF];intro x _;rfl),IX]
def kR:List Dt->gJ Dt:=Gj λ x y=>(dW x).bind λ w=>(jU y).map λ p=>.lst (((U8 w.1).filter λ o=>decide (xT p o∈w.2)).map gR)
def qU:DE->gJ RD:=(kc (gLC ["_law_other"] [0,1] (jJ (gP (g_ dIx (gT 0) (gC (.int 0))) gS)) (ggN 0) (gB (g_ (dIn U7) (iX (gP (iM Fl (gP (gT 2) (gP (gT 0) gS))) (gP (iM Fm (gP (gT 2) (gP (gT 0) gS))) gS))) (g_ dIx (gT 1) (gC (.int 1))))) (gT 0)))
abbrev CJ:List Str:=["_law_web_here","_law_place"]
theorem O2 (t:Nat×Nat)(l:gN):qu (hJ t) (l.map hJ)=decide (t∈l):=by unfold qu;rw[bJ,List.any_map];simp only[br,CI,fA,beq_iff_eq,decide_eq_true_eq];exact⟨λ⟨x,hx,e⟩=>by rw[<-e];exact hx,λ h=>⟨t,h,rfl⟩⟩
theorem Rl (neg:Bool)(t:Nat×Nat)(l:gN):dIn neg (hJ t) (iK l)=My (.bl (if neg then !decide (t∈l) else decide (t∈l))):=by show(if ((l.map hJ).all λ e=>sh2 e (hJ t))=U6 then My (Dt.bl (if neg then !qu (hJ t) (l.map hJ) else qu (hJ t) (l.map hJ))) else U5)=_;rw[ai (by rw[fk,bF];intro x _;rfl),O2]
theorem A9:Hg 2 CJ kR qU:=by
 intro ds d hl h;obtain⟨x,y,rfl,h⟩:=qP h;obtain⟨w,e4,h⟩:=gU h;obtain⟨p,e2,h⟩:=iA h;subst h;obtain⟨rfl,hg⟩:=oF e4;rw[ju e2];have h8:=hg.mv;have hr:oE [gR w.1]=My ((U8 w.1).map gR):=jF (n:=w.1) (by lia);have ix:dIx (h_ w) (.int 0)=My (gR w.1):=rfl;have ix1:dIx (h_ w) (.int 1)=My (iK w.2):=rfl;refine⟨.rt (.lst (((U8 w.1).filter λ o=>decide (xT p o∈w.2)).map gR)),?_,rfl⟩;have lc:=lR (enc:=gR) (gg:=ggN 0) (gt:=gB (g_ (dIn U7) (iX (gP (iM Fl (gP (gT 2) (gP (gT 0) gS))) (gP (iM Fm (gP (gT 2) (gP (gT 0) gS))) gS))) (g_ dIx (gT 1) (gC (.int 1))))) (ge:=gT 0) (δc:=[U5,My (h_ w),My (gR p)]) (δa:=λ o=>[My (gR o),My (h_ w),My (gR p)]) (p:=λ o=>decide (xT p o∈w.2)) (enc':=gR) (U8 w.1) λ o ho=>⟨rfl,by have mn:=IV p o;have mx:=IW p o;have inn:=Rl U7 (xT p o) w.2;have e:Dt.tup [gR (min p o),gR (max p o)]=hJ (xT p o):=rfl;generalize hJ (xT p o)=ep,gR (max p o)=n2,gR (min p o)=n1,gR o=no,gR p=np,h_ w=ww,iK w.2=tt at *;simp[mn,mx,ix1,e,inn],λ _=>rfl⟩
 have hn:((U8 w.1).map gR).length<=1000:=by simp;lia
 generalize h_ w=ww,(U8 w.1).map gR=rs,((U8 w.1).filter λ o=>decide (xT p o∈w.2)).map gR=res at *;simp only[gR]at ix hr lc;simp[qU,gR,ix,hr,lc,hn]
section
variable {w:Web}(g:Good w)
include g
end
theorem stE {K:gK}{H:Hp}:Sat K H [] []:=⟨rfl,λ _ _ h=>by cases h⟩
theorem stN {K:gK}{H:Hp}{x:gJ V}{σ:L2.St}{δ:DE}(h:Sat K H σ δ):Sat K H (x::σ) (U5::δ):=⟨cN (·+1) h.len,λ j d hj=>by
 cases j with
 | zero=>cases hj
 | succ j=>exact h.at_ j d hj⟩
theorem stS {K:gK}{H:Hp}{v:V}{d:Dt}{σ:L2.St}{δ:DE}(i:Is K H v d)(h:Sat K H σ δ):Sat K H (My v::σ) (My d::δ):=⟨cN (·+1) h.len,λ j d hj=>by
 cases j with
 | zero=>cases hj;exact⟨_,rfl,i⟩
 | succ j=>exact h.at_ j d hj⟩
section
variable {K:gK}{w:Web}(g:Good w)
include g
end
def fr (c N:Nat):Rat:=U_ c N
theorem Ea {c d N:Nat}(h:0<N):fr c N+fr d N=fr (c+d) N:=by
 unfold fr;have hN:(N:Int)≠0:=by lia
 rw[Rat.divInt_add_divInt _ _ hN hN,<-Int.add_mul,Rat.divInt_mul_right hN];simp
theorem IY (c d N M:Nat):fr c N*fr d M=fr (c*d) (N*M):=by unfold fr;rw[Rat.divInt_mul_divInt];simp
theorem xU {c N k:Nat}(h:0<k):fr (c*k) (N*k)=fr c N:=by unfold fr;have:=Rat.divInt_mul_right (n:=(c:Int)) (d:=(N:Int)) (a:=(k:Int)) (by lia);simpa using this
theorem rL (N:Nat):fr 0 N=0:=by unfold fr;simp
theorem Fz {N:Nat}(h:0<N):fr N N=1:=by have:=xU (c:=1) (N:=1) h;simp only[Nat.one_mul]at this;rw[this];rfl
theorem Eb {c N:Nat}(h:0<N):0<=(fr c N).num/\(fr c N).num.natAbs<=c/\(fr c N).den<=N:=by obtain⟨h1,h2⟩:=sJ (a:=(c:Int)) (b:=(N:Int)) (by lia);obtain⟨h3,h4⟩:=D0 (a:=(c:Int)) (b:=(N:Int)) (by lia);unfold fr;generalize hg:((Int.gcd (c:Int) (N:Int):Nat):Int)=gg at *;have k1:0<=(c:Int) / gg:=Int.ediv_nonneg (by lia) (by lia);have k2:(c:Int) / gg<=c:=Int.ediv_le_self _ (by lia);have k3:(N:Int) / gg<=N:=Int.ediv_le_self _ (by lia);exact⟨by rw[h1];exact k1,by rw[h1];lia,by lia⟩
theorem IZ {c N:Nat}(h:0<N)(hN:N<2 ^ 1900)(hc:c<=N):sm (fr c N):=by obtain⟨_,h2,h3⟩:=Eb (c:=c) h;exact⟨by lia,by lia⟩
theorem I8 {N:Nat}(h:0<N)(hN:N<2 ^ 1900):∀ (cs:List Nat) (x:Nat),x+cs.sum<=N->tT (fr x N) (cs.map λ c=>fr c N)=My (fr (x+cs.sum) N)
 | [],x,_=>by simp[tT]
 | c::r,x,hx=>by rw[cQ]at hx;rw[aI,tT,ai ⟨IZ h hN (by lia),IZ h hN (by lia)⟩,Ea h,I8 h hN r (x+c) (by lia),cQ,Nat.add_assoc]
theorem Ec {N:Nat}(h:0<N):∀ (cs:List Nat),(cs.map λ c=>fr c N).sum=fr cs.sum N
 | []=>by simp[rL]
 | c::r=>by rw[aI,cQ,Ec h r,Ea h,cQ]
theorem LD {N:Nat}(h:0<N)(hN:N<2 ^ 1900)(cs:List Nat)(hx:cs.sum<=N):tT 0 (cs.map λ c=>fr c N)=My (fr cs.sum N):=by have:=I8 h hN cs 0 (by lia);rw[rL,Nat.zero_add]at this;exact this
section
variable {w:Web}(g:Good w)
include g
def PQ (w:Web)(k a:Nat):List Rat:=(U8 w.1).map λ b=>fr (ch w k a b) (420 ^ k)
omit g in
theorem Ed (k a:Nat):(PQ w k a).length=w.1:=by simp[PQ]
omit g in
theorem Rm (k a:Nat){b:Nat}(hb:b<w.1):(PQ w k a).getD b 0=fr (ch w k a b) (420 ^ k):=by unfold PQ;rw[aq,aH,cL hb];rfl
omit g in
theorem LF (a:Nat):unit w.1 a=PQ w 0 a:=by
 unfold unit PQ;refine bR λ b _=>?_;show(if b=a then (1:Rat) else 0)=fr (if b=a then 1 else 0) (420 ^ 0);split
 ·rw[Nat.pow_zero,Fz (by decide)]
 ·rw[rL]
omit g in
theorem Ee {k:Nat}(h:k<=31):420 ^ k<2 ^ 1900:=bN (cR (by decide) h) (by decide +kernel)
omit g in
theorem nP (k:Nat):0<420 ^ k:=Nat.pow_pos (by decide)
omit g in
theorem LG {j:Nat}(hj:j<w.1):(n_ w).getD j 0=dg w j:=by unfold n_;rw[aq,aH,cL hj];rfl
omit g in
theorem O3 {l:List Rat}(hl:l.length=w.1){j:Nat}(hj:j<w.1):(goQ w l).getD j 0=l.getD j 0*U_ 1 (dg w j):=by
 unfold goQ;have h1:l[j]?=My (l.getD j 0):=by rw[aq,aA (by lia)];rfl
 have h2:(n_ w)[j]?=My (dg w j):=by
  have:=LG hj;have hd:j<(n_ w).length:=by rw[xH];exact hj
  rw[aq,aA hd]at this;rw[aA hd];exact cN My this
 rw[aq,aH];have h3:(l.zip (n_ w))[j]?=My (l.getD j 0,dg w j):=fV.mpr ⟨h1,h2⟩;rw[h3];rfl
theorem Good.FA (k a p:Nat):m6 w (PQ w k a) p=((nb w.2 p).map λ j=>wt w j*ch w k a j).map λ c=>fr c (420 ^ (k+1)):=by
 unfold m6;rw[aU];refine bR λ j hj=>?_;have hj':=(g.qm hj).1;rw[O3 (Ed k a) hj',Rm k a hj'];show fr (ch w k a j) (420 ^ k)*fr 1 (dg w j)=fr (wt w j*ch w k a j) (420 ^ (k+1));rw[IY,Nat.mul_one];have hw:=g.sO hj';have hp:0<wt w j:=by refine Nat.pos_of_ne_zero λ z=>?_;rw[z]at hw;lia
 rw[<-xU (c:=ch w k a j) (N:=420 ^ k*dg w j) hp,eh,dM (dg w j),hw,<-eu,dM (ch w k a j)]
theorem Good.qV (k a p:Nat):((nb w.2 p).map λ j=>wt w j*ch w k a j).sum=ch w (k+1) a p:=by rw[g.IT p];show _=S w.1 λ j=>adj w p j*wt w j*ch w k a j;exact kn λ j _=>by rw[eh]
theorem Good.FC (k:Nat){a p:Nat}(ha:a<w.1)(hp:p<w.1):ch w k a p<=420 ^ k:=by rw[<-g.OY k ha,<-CF hp (λ b=>ch w k a b)];exact Rk λ i _=>by split<;>lia
theorem Good.Gs {k a:Nat}(ha:a<w.1)(hk:k<=30):ID w (PQ w k a):=by
 refine⟨Ed k a,λ d hd=>?_,λ q hq=>?_,λ p hp j hj=>(g.qm hj).1,λ p hp=>?_⟩
 ·obtain⟨j,hj,rfl⟩:=aE.mp hd;have hj:=aC.mp hj;have:=g.wz j hj;have:=g.D_ j hj;lia
 ·obtain⟨b,hb,rfl⟩:=aE.mp hq;exact IZ (nP k) (Ee (by lia)) (g.FC k ha (aC.mp hb))
 ·rw[g.FA k a p,LD (nP (k+1)) (Ee (by lia)) _ (by rw[g.qV];exact g.FC (k+1) ha hp),Ec (nP (k+1))]
theorem Good.LH (k a:Nat):oX w (PQ w k a)=PQ w (k+1) a:=by unfold oX PQ;refine bR λ p _=>?_;have:=g.FA k a p;unfold PQ at this;rw[this,Ec (nP (k+1)),g.qV]
theorem Good.I9 {a:Nat}(ha:a<w.1):∀ (k j:Nat),j+k<=31->itQ w k (PQ w j a)=My (PQ w (j+k) a)
 | 0,j,_=>rfl
 | k+1,j,h=>by rw[itQ,ai ((vz _ _).mpr (g.Gs ha (by lia))),g.LH,Good.I9 ha k (j+1) (by lia),Nat.add_assoc,Nat.add_comm 1 k]
theorem Good.TZ:Cw w=U6:=(Cz w).mpr λ p _ j hj=>(g.qm hj).1
theorem Good.Nm (a:Nat):∀ (k b:Nat),wy w k a b<=64 ^ k
 | 0,b=>by show(if b=a then 1 else 0)<=1;split<;>lia
 | k+1,b=>by
  show S w.1 (λ j=>adj w b j*1*wy w k a j)<=_;have h1:S w.1 (λ j=>adj w b j*1*wy w k a j)<=S w.1 λ _=>64 ^ k:=Rk λ j _=>by
   have:=Good.Nm a k j;unfold adj;split
   ·lia
   ·have:=Nat.pow_pos (n:=k) (show 0<64 by decide);lia
  have h2:∀ n:Nat,S n (λ _=>64 ^ k)=n*64 ^ k:=λ n=>by
   induction n with
   | zero=>simp[OW]
   | succ n ih=>rw[lq,ih,Nat.succ_mul]
  rw[h2]at h1;have:=g.mv;rw[eu];have:=Nat.mul_le_mul_right (64 ^ k) (show w.1<=64 by lia);lia
end
def O4:gN:=(U8 8).flatMap λ a=>((U8 8).filter λ b=>decide (a<b)).map λ b=>(a,b)
theorem pairs_len {l:gN}{n:Nat}(nd:l.Nodup)(ok:∀ p∈l,p.1<p.2/\p.2<n)(h8:n<=8):l.length<=28:=by
 have:=aL nd (l₂:=O4) λ p hp=>by have:=ok p hp;unfold O4;rw[List.mem_flatMap];exact⟨p.1,aC.mpr (by lia),aE.mpr ⟨p.2,bH.mpr ⟨aC.mpr (by lia),by simp;lia⟩,rfl⟩⟩
 have e:O4.length=28:=by decide
 lia
theorem O5 {a b:Nat×Nat}(h:leP a b=U6)(ne:a≠b):mX a b=U6:=by
 rw[rK]at h;rw[lz];rcases h with h | ⟨h1,h2⟩
 ·exact .inl h
 ·refine .inr ⟨h1,?_⟩;have:a.2≠b.2:=λ e=>ne (gz h1 e);lia
theorem Gu {a b:Nat×Nat}(h:mX a b=U6):leP a b=U6:=by rw[lz]at h;rw[rK];lia
def Rn (l:gN)(n:Nat):Prop:=∀ S:Nat->Prop,S 0->(∀ p∈l,S p.1↔S p.2)->∀ v,v<n->S v
theorem I_ {l:gN}{n:Nat}(ok:∀ p∈l,p.1<p.2/\p.2<n)(h0:0<n):(bfs l 0).length=n↔Rn l n:=by
 refine⟨λ h S s0 cl v hv=>?_,wx ok h0⟩;have f:=LB l 0;have nbS:∀ (T:Nat->Prop),(∀ p∈l,T p.1↔T p.2)->∀ u v,v∈nb l u->T u->T v:=λ T ct u v h t=>by
  rcases pL.mp h with z | z
  ·exact(ct _ z).mpr t
  ·exact(ct _ z).mp t
 have sub:∀ k∈keys (bfs l 0),k∈U8 n:=λ k hk=>by obtain⟨q,hq,rfl⟩:=aE.mp hk;rw[aC];exact f.sub (λ v=>v<n) h0 (nbS _ λ p hp=>by have:=ok p hp;constructor<;>(intro _;lia)) q.2 q.1 hq
 have len:(keys (bfs l 0)).length=n:=by rw[keys,ah];exact h
 have hk:v∈keys (bfs l 0):=ba λ hn=>by
  have:(v::keys (bfs l 0)).Nodup:=bC.mpr ⟨hn,f.nd⟩;have:=aL this (l₂:=U8 n) (λ k hk=>by
   rcases aD.mp hk with rfl | hk
   ·exact aC.mpr hv
   ·exact sub k hk)
  simp[len]at this;lia
 obtain⟨q,hq,rfl⟩:=aE.mp hk;exact f.sub S s0 (nbS S cl) q.2 q.1 hq
section
variable {w:Web}(g:Good w)
include g
end
end L2
namespace L2
open PySem PySem.Spec PyProof.Rows
def Ja (h:Heap)(p:Addr->Bool):Heap:={h with objs:=h.objs.mapIdx λ i o=>if p i then {o with data:=.freed} else o}
theorem xV (h:Heap)(p:Addr->Bool)(b:Addr):(Ja h p).get? b=if p b then U5 else h.get? b:=by
 unfold Heap.get? Ja;simp only[Array.getElem?_mapIdx];cases e:h.objs[b]? with
 | none=>simp
 | some o =>
  by_cases c:p b=U6
  ·simp[c]
  ·simp[c]
theorem mF {h base base':Heap}:∀ {l:List Env},h.FunFrames base l->(∀ b∈frs l,base'.get? b=U5)->h.FunFrames base' l
 | [],_,_=>trivial
 | env::r,hl,hb=>by obtain⟨hk,⟨L,o,hf,hn,ho,hd⟩,hr⟩:=hl;exact⟨hk,⟨L,o,hf,hb L (by unfold frs;rw[bK,hf];exact aB),ho,hd⟩,mF hr λ b m=>hb b (by unfold frs;rw[bK,hf];exact ay _ m)⟩
theorem frames_at {h base:Heap}:∀ {l:List Env},h.FunFrames base l->∀ b∈frs l,∃ o,h.get? b=My o/\∀ vs,o.data≠.fields vs:=λ hl b hb=>(hl.mem hb).2
structure Fly (Old:Addr->Prop)(H:Hp)(h:Heap)(a:Addr)(cls a0:gL):Prop where
 ex:∃ (oe:Obj) (vs:Array gL) (T:Addr) (oT:Obj) (ts:Array gL),h.get? a=My oe/\oe.cls=cls/\vs[0]?=My a0/\oe.data=.fields vs/\vs[1]?=My (.ref T)/\T≠a/\h.get? T=My oT/\oT.data=.fields ts/\ts[3]?=My .none/\H a=U5/\H T=U5/\∀ b,Old b->b≠a/\b≠T
structure zV (fs:List Addr)(mine:Addr->Prop)(h h':Heap):Prop where
 keep:∀ b o,h.get? b=My o->b∉fs->¬ mine b->h'.get? b=My o
 slot:∀ b o,h.get? b=My o->b∈fs->∃ sl,h'.get? b=My {o with slots:=sl}
section
variable {M:Model}{A:Around}{E:gH}{s:gM}{base:Heap}{env:Env}{outer:List Env}{L e:Addr}{Q:Unit->gM->Prop}
set_option tactic.hygienic true in
theorem CK (hA:A.frames=My (env::outer))(hF:s.heap.FunFrames base (env::outer))(hf:env.frame=My L){oe:Obj}{vs:Array gL}{a0:gL}(he:s.heap.get? e=My oe)(hd:oe.data=.fields vs)(h0:vs[0]?=My a0)(h1:vs[1]?=My .none){H:Hp}{Old:Addr->Prop}(hH:H e=U5)
  (hT:∀ b,s.heap.get? b=U5->H b=U5/\¬ Old b) (ho:¬ Old e) (q:∀ h',zV (frs (env::outer)) (λ b=>b=e) s.heap h'->Fly Old H h' e oe.cls a0->Q () {s with heap:=h'}):wpAny M A (leaving env (.ref e)) Q E s:=by
 have fr:=frames_at hF;have nef:e∉frs (env::outer):=λ z=>by obtain⟨o,ho,hn⟩:=fr e z;rw[he]at ho;cases ho;exact hn vs hd
 let B:=Ja s.heap λ b=>decide (b∈frs (env::outer)\/b=e);have hB:∀ b,B.get? b=if b∈frs (env::outer)\/b=e then U5 else s.heap.get? b:=λ b=>by rw[xV];by_cases c:b∈frs (env::outer)\/b=e<;>simp[c]
 have stays:B.StaysIn s.heap:=λ b o h=>by
  rw[hB]at h;split at h
  ·cases h
  ·exact h
 have hF':s.heap.FunFrames B (env::outer):=mF hF λ b hb=>by rw[hB,ai (.inl hb)]
 have size:1<vs.size:=by have:=(cp.mp h1).1;exact this
 unfold leaving noteFrame;rw[hf];dsimp only;refine ae (ae (bV he hd h1 ?_));rw[au (by decide)];refine wpAny_newEntryW hA hF' hf he stays (by rw[hB,ai (.inr rfl)]) hd size h0 λ h' left=>?_;obtain⟨st,fr2,tr,sl⟩:=left;refine q h' ⟨λ b o hb nf nm=>st b o (by rw[hB,au (λ z=>z.elim nf nm)];exact hb),λ b o hb hf=>?_⟩ ?_
 ·obtain⟨o2,ho2,hn⟩:=fr b hf;rw[hb]at ho2;cases ho2;exact sl b o hb hn
 ·obtain⟨oe',vs',T,oT,ts,he',⟨hc,hv0⟩,hd',hv1,hBT,hne,hT',hdT,hts⟩:=tr
  have nT:s.heap.get? T=U5:=by
   rw[hB]at hBT;split at hBT
   ·rename_i z
    rcases z with z | z
    ·obtain⟨o,ho,hn⟩:=frames_at fr2 T z;rw[hT']at ho;cases ho;exact absurd hdT (hn ts)
    ·exact absurd z hne
   ·exact hBT
  obtain⟨HT,oT'⟩:=hT T nT;exact⟨oe',vs',T,oT,ts,he',hc,hv0,hd',hv1,hne,hT',hdT,hts,hH,HT,λ b hb=>⟨λ z=>ho (z▸hb),λ z=>oT' (z▸hb)⟩⟩
set_option tactic.hygienic true in
theorem FD (hA:A.frames=My (env::outer))(hF:s.heap.FunFrames base (env::outer))(hf:env.frame=My L){H:Hp}{Old:Addr->Prop}{cls a0:gL}(fl:Fly Old H s.heap e cls a0)
  (hT:∀ b,s.heap.get? b=U5->H b=U5/\¬ Old b) (q:∀ h' (T:Addr),H T=U5->¬ Old T->zV (frs (env::outer)) (λ b=>b=e\/b=T) s.heap h'->Fly Old H h' e cls a0->Q () {s with heap:=h'}) :
  wpAny M A (noteFrame (.ref e) env) (λ _ s'=>wpAny M A (setFlight (.ref e) U5) Q E s') E s:=by
 obtain⟨oe,vs,T,oT,ts,he,hc,h0,hd,h1,hne,hT0,hdT,hts,hH,HT,old⟩:=fl.ex;have fr:=frames_at hF;have nef:∀ {b o us},s.heap.get? b=My o->o.data=.fields us->b∉frs (env::outer):=λ{b o us} hb hu z=>by obtain⟨o2,ho,hn⟩:=fr b z;rw[hb]at ho;cases ho;exact hn us hu
 let B:=Ja s.heap λ b=>decide (b∈frs (env::outer)\/b=e\/b=T);have hB:∀ b,B.get? b=if b∈frs (env::outer)\/b=e\/b=T then U5 else s.heap.get? b:=λ b=>by rw[xV];by_cases c:b∈frs (env::outer)\/b=e\/b=T<;>simp[c]
 have stays:B.StaysIn s.heap:=λ b o h=>by
  rw[hB]at h;split at h
  ·cases h
  ·exact h
 have hF':s.heap.FunFrames B (env::outer):=mF hF λ b hb=>by rw[hB,ai (.inl hb)]
 have Be:B.get? e=U5:=by rw[hB,ai (.inr (.inl rfl))]
 have BT:B.get? T=U5:=by rw[hB,ai (.inr (.inr rfl))]
 refine wpAny_noteFrame_onW hA hF' hf ⟨oe,vs,T,oT,ts,he,⟨hc,h0⟩,hd,h1,BT,hne,hT0,hdT,hts⟩ stays Be λ h1' nt=>?_;obtain⟨st1,fr1,tr1,sl1⟩:=nt;refine wpAny_landsW (base:=B) (l:=env::outer) (cls:=cls) (a0:=a0) (L:=L) ⟨st1,Be,fr1,tr1⟩ λ h2 fl2 up=>?_;obtain⟨st2,_,fr2,tr2⟩:=fl2;refine q h2 T HT (λ z=>(old T z).2 rfl) ⟨λ b o hb nf nm=>st2 b o (by rw[hB,au (λ z=>z.elim nf nm)];exact hb),λ b o hb hf=>?_⟩ ?_
 ·obtain⟨o2,ho2,hn⟩:=fr b hf;rw[hb]at ho2;cases ho2;obtain⟨sl,e1⟩:=sl1 b o hb hn;obtain⟨sl',e2⟩:=up b _ e1 hn;exact⟨sl',e2⟩
 ·obtain⟨oe',vs',T',oT',ts',he',⟨hc',hv0⟩,hd',hv1,hBT,hne',hT',hdT',hts'⟩:=tr2
  have nT:H T'=U5/\¬ Old T':=by
   rw[hB]at hBT;split at hBT
   ·rename_i z
    rcases z with z | z | z
    ·obtain⟨o,ho,hn⟩:=frames_at fr2 T' z;rw[hT']at ho;cases ho;exact absurd hdT' (hn ts')
    ·exact absurd z hne'
    ·rw[z];exact⟨HT,λ z=>(old T z).2 rfl⟩
   ·exact hT T' hBT
  exact⟨oe',vs',T',oT',ts',he',hc',hv0,hd',hv1,hne',hT',hdT',hts',hH,nT.1,λ b hb=>⟨(old b hb).1,λ z=>nT.2 (z▸hb)⟩⟩
end
section
variable {P:Program}{w:World}{H H':Hp}{h h' h0:Heap}{a:Addr}
theorem jH.there {o:HO}(x:jH P w H h a o):∃ u,h.get? a=My u:=by
 cases o with
 | lst xs=>obtain⟨_,_,_,_,e⟩:=x;exact⟨_,e⟩
 | tup xs=>obtain⟨⟨_,o,e,_⟩,_⟩:=x;exact⟨_,e⟩
 | dK kvs=>obtain⟨_,_,_,_,o,_,_,e,_⟩:=x;exact⟨_,e⟩
 | dT kvs=>obtain⟨_,_,_,_,o,_,_,e,_⟩:=x;exact⟨_,e⟩
 | set S n=>obtain⟨o,_,_,_,e,_⟩:=x;exact⟨_,e⟩
 | ins C dx fs=>obtain⟨_,_,_,e,_⟩:=x;exact⟨_,e⟩
 | own y=>exact x
 | xd fs=>obtain⟨_,⟨_,_,_,e,_⟩,_⟩:=x;exact⟨_,e⟩
 | rng lo hi=>obtain⟨_,_,_,e⟩:=x;exact⟨_,e⟩
 | frz ob u=>obtain⟨e,_⟩:=x;exact⟨_,e⟩
 | tbl ps=>exact⟨_,x⟩
 | met f y=>exact⟨_,x⟩
 | ext φ=>obtain⟨_,e,_⟩:=x;exact e
theorem HOk.new (x:HOk P w H h)(e:h.get? a=U5):H a=U5:=by
 cases q:H a with
 | none=>rfl
 | some u=>obtain⟨o,z⟩:=(x a u q).there;rw[e]at z;cases z
theorem HOk.uc {fs:List Addr}{mine:Addr->Prop}(x:HOk P w H h)(n:zV fs mine h h')(hf:∀ b∈fs,H b=U5)(hm:∀ b,mine b->H b=U5):HOk P w H h':=λ b u e =>
 (x b u e).wM (λ c v hc q=>n.keep c v q (λ z=>by
   rcases hc with rfl | hc
   ·rw[hf _ z]at e;cases e
   ·rw[hf _ z]at hc;cases hc) λ z=>by
   rcases hc with rfl | hc
   ·rw[hm _ z]at e;cases e
   ·rw[hm _ z]at hc;cases hc) (λ _ q=>q) λ _ _ q=>q
theorem Un.uc {fs:List Addr}{L:Addr}{mine:Addr->Prop}(u:Un fs [] H H' h0 h)(n:zV (L::fs) mine h h')(hL:h0.get? L=U5)(hm:∀ b,h0.get? b≠U5->¬ mine b):Un fs [] H H' h0 h':=by
 have ne:∀ {b o},h0.get? b=My o->b≠L:=λ{b o} e z=>by rw[z,hL]at e;cases e
 have nm:∀ {b o},h0.get? b=My o->¬ mine b:=λ{b o} e=>hm b (by rw[e];simp);refine⟨λ b o e hn hb hx=>n.keep b o (u.keep b o e hn hb hx) (λ z=>(aD.mp z).elim (ne e) hb) (nm e),λ b o e hn hb hx=>?_,u.free,λ b o e hx=>?_,u.qq,u.qr,u.uE⟩
 ·obtain⟨sl,e1⟩:=u.slot b o e hn hb hx;obtain⟨sl',e2⟩:=n.slot b _ e1 (ay _ hb);exact⟨sl',e2⟩
 ·obtain⟨o',e1⟩:=u.there b o e hx
  by_cases c:b∈L::fs
  ·obtain⟨sl,e2⟩:=n.slot b o' e1 c;exact⟨_,e2⟩
  ·exact⟨o',n.keep b o' e1 c (nm e)⟩
end
def CXE (P:Program)(w:World):CXT:=λ outer H s E e s'=>∃ a cls a0 H',e=.ref a/\s'.os=s.os/\AllBare s'.gens/\Un (frs outer) [] H H' s.heap s'.heap/\HOk P w H' s'.heap/\Fly (λ b=>s.heap.get? b≠U5) H' s'.heap a cls a0/\E cls (My a) H'
section
variable {P:Program}{w:World}{K:gK}{mg:gG}{base:Heap}{N:List Str}{qual:Str}{scope:Scope}{f:Addr}{cd:gL}{A:Around}{outer:List Env}{s s1:gM}{H H1:Hp}{E:XK}{pins:gO}{σ:St}
abbrev cxE (P:Program)(w:World)(K:gK)(mg:gG)(base:Heap)(N:List Str)(qual:Str)(scope:Scope)(f:Addr)(cd:gL)(A:Around)(outer:List Env)(s:gM)(H:Hp)(E:XK):Cx:=qt (CXE P w) P w K mg base N qual scope f cd A outer s H E
theorem O6 (I:Inv (cxE P w K mg base N qual scope f cd A outer s H E) pins σ H1 s1){h2:Heap}{e:Addr}{cls:gL}{vs:List gL}(m:s1.heap.MadeExcOf h2 e cls vs)(q:E cls (My e) H1)(t:Nat) :
  (cxE P w K mg base N qual scope f cd A outer s H E).xe (.ref e) {s1 with heap:=h2,toks:=t}:=by
 have J:=I.kept (t':=t) m.keeps;obtain⟨tt,he,ht,_⟩:=m.there;have hH:H1 e=U5:=I.hok.new m.new;have old:∀ b,s1.heap.get? b=U5->s.heap.get? b=U5:=λ b hb=>by
  cases q:s.heap.get? b with
  | none=>rfl
  | some o =>obtain⟨o',z⟩:=I.base.there b o q (by show b∉[];simp);rw[hb]at z;cases z
 refine CK (L:=s.heap.objs.size) J.ok.frames J.stack rfl he rfl rfl rfl (H:=H1) (Old:=λ b=>s.heap.get? b≠U5) hH (λ b hb=>?_) (λ z=>z (old e m.new)) λ h' n fl=>?_
 ·refine⟨J.hok.new hb,λ z=>z ?_⟩
  cases q:s.heap.get? b with
  | none=>rfl
  | some o =>obtain⟨o',z⟩:=J.base.there b o q (by show b∉[];simp);have z:h2.get? b=My o':=z;have hb:h2.get? b=U5:=hb;rw[hb]at z;cases z
 ·exact⟨e,cls,_,H1,rfl,J.os,J.bare,J.base.uc n (cE (aw _)) λ b hb z=>by rw[z]at hb;exact hb (old e m.new),J.hok.uc n J.sX (λ b z=>by rw[z];exact hH),fl,q⟩
theorem Ro {E':XK}(hE:∀ c a H',E' c a H'->E c a H'):Passes (CXE P w) (cxE P w K mg base N qual scope f cd A outer s H E) E':=by
 rintro pins σ H1 s1 e s2 I ⟨a,cls,a0,H2,rfl,os,bare,un,hok,fl,q⟩;obtain⟨hh,g,d,t,os'⟩:=s2;obtain rfl:os'=s1.os:=os;have J:=I.call (h':=hh) (g':=g) (d':=d) (t':=t) (ch:=[]) un hok bare (λ b z=>absurd z (by simp));have old:∀ b,s.heap.get? b≠U5->s1.heap.get? b≠U5:=λ b hb z=>by
  cases q:s.heap.get? b with
  | none=>exact hb q
  | some o =>obtain⟨o',e⟩:=I.base.there b o q (by show b∉[];simp);rw[z]at e;cases e
 have fl':Fly (λ b=>s.heap.get? b≠U5) H2 hh a cls a0:=by obtain⟨oe,vs,T,oT,ts,h1,h2,h3,h4,h5,h6,h7,h8,h9,h10,h11,h12⟩:=fl.ex;exact⟨oe,vs,T,oT,ts,h1,h2,h3,h4,h5,h6,h7,h8,h9,h10,h11,λ b hb=>h12 b (old b hb)⟩
 refine ae (FD (L:=s.heap.objs.size) J.ok.frames J.stack rfl fl' (λ b hb=>?_) λ h' T HT oT n fl2=>?_)
 ·refine⟨J.hok.new hb,λ z=>z ?_⟩
  cases q:s.heap.get? b with
  | none=>rfl
  | some o =>obtain⟨o',z⟩:=J.base.there b o q (by show b∉[];simp);have z:hh.get? b=My o':=z;have hb:hh.get? b=U5:=hb;rw[hb]at z;cases z
 ·obtain⟨oe,vs,T0,oT0,ts,h1,h2,h3,h4,h5,h6,h7,h8,h9,h10,h11,h12⟩:=fl'.ex;exact⟨a,cls,a0,H2,rfl,J.os,J.bare,J.base.uc n (cE (aw _)) λ b hb z=>by
   rcases z with z | z
   ·exact(h12 b hb).1 z
   ·exact oT (z▸hb),J.hok.uc n J.sX (λ b z=>by
   rcases z with z | z
   ·rw[z];exact h10
   ·rw[z];exact HT),fl2,hE _ _ _ q⟩
end
abbrev zb:List gL:=[.type "ValueError",.type "Exception",.type "BaseException",.type "object"]
structure ClT (K:gK)(mg:gG)(x:Str)(dn:List gL) where
 C:Addr
 n:PySem.W.nsIn K mainGlobals x=My (My (.ref C))
 m:mg x=My (.ref C)
 ex:PySem.W.excIn K C zb "ValueError.__new__"=U6
 mro:(PySem.W.clsIn K C).map (·.mro)=My (.ref C::(dn++zb))
theorem O7 {K:gK}{mg:gG}{base:Heap}(M:Mod K mg base):∃ p loose mb,PySem.W.TopRead p loose mg mb base:=by
 obtain⟨mb,hb,hm⟩:=M.blt;obtain⟨o,es,ep,e1,e2,sk,e3⟩:=id M.glob;refine⟨(default:Program),es.toList.filterMap (λ e=>match e.key with | .str s _=>My s | _=>U5),mb,M.glob,hb,M.nolimit,hm,λ x _ hl _ _ _=>?_⟩;rw[<-e3 x];show(es.find? λ e=>e.key.isStr x).map (·.val)=U5;cases q:es.find? λ e=>e.key.isStr x with
 | none=>rfl
 | some d =>
  exfalso;have h1:=Array.find?_some q;have h2:=Array.mem_of_find?_eq_some q;refine hl (de.mpr ⟨d,by simpa using h2,?_⟩);cases hk:d.key with
  | str s t =>
   rw[hk]at h1;have:s=x:=by simpa [Value.isStr] using h1
   rw[this]
  | _=>rw[hk]at h1;cases h1
theorem LI {K:gK}{mg:gG}{base:Heap}(M:Mod K mg base){x:Str}{dn:List gL}(c:ClT K mg x dn):OwnCls x c.C zb "ValueError.__new__" mg base:=by obtain⟨p,loose,mb,T⟩:=O7 M;exact PySem.W.own_of_in M.kin T c.n c.ex
def O8 (t:TA)(C:Addr)(E:XK):TS:=λ D σ H=>t σ H λ vs H1=>vs.length<=sizeLine/\∀ e,H1 e=U5->E (.ref C) (My e) H1
section
variable {P:Program}{w:World}{K:gK}{mg:gG}{base:Heap}{N:List Str}{qual:Str}{scope:Scope}{f:Addr}{cd:gL}{A:Around}{outer:List Env}{s:gM}{H:Hp}{E:XK}{x:Str}{np cpos pos:Pos}{e0:Expr}{dn:List gL}{t:TA}
theorem Jb (c:ClT K mg x dn)(hd:(cxE P w K mg base N qual scope f cd A outer s H E).A.handled=U5)(ha:PA (cxE P w K mg base N qual scope f cd A outer s H E) [e0] t)(hg:Gl (cxE P w K mg base N qual scope f cd A outer s H E) x:=by rfl)(hdb:(x==("__debug__":Str))=U7:=by decide)
  (he:starEach [e0] (cxE P w K mg base N qual scope f cd A outer s H E).env=[(U7,eval e0 (cxE P w K mg base N qual scope f cd A outer s H E).env)]:=by rfl) :
  PS (cxE P w K mg base N qual scope f cd A outer s H E) (.Raise (My (.Call (.Name x np) [e0] [] cpos)) U5 pos) (O8 t c.C E):=by
 intro pins s1 σ H1 D I h;obtain⟨bm,N0,nm,q,bs,hdct,sn,sub,ab,col,dd,k0,k1,k2,k3,k5,mN,e1,e2,e3,e4⟩:=(LI I.mod c).obj;have he2:backTo cpos (starEach [e0] (cxE P w K mg base N qual scope f cd A outer s H E).env)=[(U7,eval e0 (cxE P w K mg base N qual scope f cd A outer s H E).env)]:=by rw[he];rfl
 refine wpAny_Raise_call_subU (nm:=nm) (q:=q) (C:=c.C) (N:=N0) (bs:=bs) (hdct:=hdct) (sn:=sn) (sub:=sub) (ab:=ab) (col:=col) (dd:=dd) (k0:=k0) (k1:=k1) (k2:=k2) (k3:=k3) (k5:=k5) F.excBase_ValueError (by decide) F.excBase_ValueError (e4.hasType (by decide)) hd (by rw[he2];rfl) e3 (sY I hg c.m ⟨rfl,?_⟩ hdb);rw[he2];refine Calls.evalArgs_plain ?_;have:=ha cpos pins s1 σ H1 _ I h;rw[he2]at this;refine thn this λ us s2 ⟨vs,H2,I2,r2,hz,q2⟩=>⟨rfl,by rw[<-r2.length];exact hz,I2.bk _ _ e1,?_,e4.keeps I2.bk,λ h' e made=>?_⟩
 ·obtain⟨o,es,ep,z1,z2⟩:=e2;exact⟨o,es,ep,I2.bk _ _ z1,z2⟩
 ·exact O6 I2 made (q2 e (I2.hok.new made.new)) _
end
section
variable {X Y:Cx}{pins:gO}{σ:St}{H:Hp}{s:gM}
structure Alike (X Y:Cx):Prop where
 prog:Y.prog=X.prog
 w:Y.w=X.w
 K:Y.K=X.K
 mg:Y.mg=X.mg
 base:Y.base=X.base
 N:Y.N=X.N
 s0:Y.s₀=X.s₀
 H0:Y.H₀=X.H₀
 env:Y.env=X.env
 outer:Y.outer=X.outer
 stack:Y.stack=X.stack
 ex:Y.ex=X.ex
 fn:Y.fn=X.fn
 fr:Y.A.frames=X.A.frames
theorem Inv.alike {pins':gO}(a:Alike X Y)(I:Inv X pins σ H s)(hd:Y.calm=U6->Y.A.handled=U5)(hp:∀ p∈Y.pn++pins',p∈X.pn++pins):Inv Y pins' σ H s:=by obtain⟨prog,w,K,mg,base,A,N,s0,H0,env,outer,stack,ex,fn,calm,pn,xe⟩:=X;obtain⟨prog',w',K',mg',base',A',N',s0',H0',env',outer',stack',ex',fn',calm',pn',xe'⟩:=Y;obtain⟨a1,a2,a3,a4,a5,a6,a7,a8,a9,a10,a11,a12,a13,a14⟩:=a;dsimp only at a1 a2 a3 a4 a5 a6 a7 a8 a9 a10 a11 a12 a13 a14;subst a1 a2 a3 a4 a5 a6 a7 a8 a9 a10 a11 a12 a13;obtain⟨ok,os,bare,bs,loc,cell,free,mK,pin,hok,len⟩:=I;exact⟨⟨ok.mod,ok.kind,ok.glob,ok.blt,ok.above,ok.inj,ok.has,ok.cab,hd,a14.trans ok.frames,ok.stk,ok.exf,ok.bs,ok.bsz,ok.Dj,ok.G6,ok.uF,ok.frf⟩,os,bare,bs,loc,cell,free,mK,λ p h=>pin p (hp p h),hok,len⟩
def Gv (X:Cx)(pn:gO)(b:Addr):Prop:=X.s₀.heap.get? b≠U5\/(∃ p∈pn,p.1=b)\/b=X.env.locals\/∃ x,X.env.cells.lookup x=My b
def Cx.pnC (X:Cx)(pn:gO):Cx:={X with pn:=pn}
def Cx.CL (X:Cx)(E':XK)(pn:gO):Cx:={X with pn:=pn,xe:=λ e s'=>∃ σ H a cls a0,e=.ref a/\Inv (X.pnC pn) [] σ H s'/\Fly (Gv X pn) H s'.heap a cls a0/\E' cls (My a) H}
def Cx.hdC (X:Cx)(a:Addr)(pn:gO):Cx:={X with A:=X.A.mark (My (.ref a)),calm:=U7,pn:=pn,xe:=λ _ _=>False}
theorem Gw {E':XK}{pn:gO}:Alike X (X.CL E' pn):=⟨rfl,rfl,rfl,rfl,rfl,rfl,rfl,rfl,rfl,rfl,rfl,rfl,rfl,rfl⟩
theorem rM {E':XK}{pn:gO}:Alike (X.CL E' pn) X:=⟨rfl,rfl,rfl,rfl,rfl,rfl,rfl,rfl,rfl,rfl,rfl,rfl,rfl,rfl⟩
theorem Jc {E':XK}{pn:gO}:Alike (X.CL E' pn) (X.pnC pn):=⟨rfl,rfl,rfl,rfl,rfl,rfl,rfl,rfl,rfl,rfl,rfl,rfl,rfl,rfl⟩
theorem CM {a:Addr}{pn:gO}:Alike (X.pnC pn) (X.hdC a pn):=⟨rfl,rfl,rfl,rfl,rfl,rfl,rfl,rfl,rfl,rfl,rfl,rfl,rfl,rfl⟩
theorem Jd {a:Addr}{pn:gO}:Alike (X.hdC a pn) X:=⟨rfl,rfl,rfl,rfl,rfl,rfl,rfl,rfl,rfl,rfl,rfl,rfl,rfl,rfl⟩
theorem Inv.old {pn:gO}(I:Inv (X.pnC pn) pins σ H s)(hx:X.ex=[]){b:Addr}(h:Gv X pn b):s.heap.get? b≠U5:=by
 rcases h with h | ⟨p,hp,rfl⟩ | rfl | ⟨x,hc⟩
 ·intro z
  cases q:X.s₀.heap.get? b with
  | none=>exact h q
  | some o =>obtain⟨o',e⟩:=I.base.there b o q (by show b∉X.ex;rw[hx];simp);rw[z]at e;cases e
 ·have:=(I.pin p (bc _ hp)).1;rw[this];simp
 ·obtain⟨m,⟨o,es,ep,ho,_⟩,_⟩:=I.loc;have ho:s.heap.get? X.env.locals=My o:=ho;rw[ho];simp
 ·obtain⟨v,o,ho,_⟩:=I.cell x b hc;rw[ho];simp
theorem O9 {P:Program}{w:World}{E':XK}{pn:gO}(hP:X.prog=P)(hw:X.w=w)(hx:X.ex=[]):Passes (CXE P w) (X.CL E' pn) E':=by subst hP hw;rintro pins σ H1 s1 e s2 I ⟨a,cls,a0,H2,rfl,os,bare,un,hok,fl,q⟩;obtain⟨hh,g,d,t,os'⟩:=s2;obtain rfl:os'=s1.os:=os;have J:=I.call (h':=hh) (g':=g) (d':=d) (t':=t) (ch:=[]) un hok bare (λ b z=>absurd z (by simp));have I0:Inv (X.pnC pn) [] σ H1 s1:=I.alike Jc I.ok.hd λ p hp=>bc _ (show p∈pn by have:p∈pn++[]:=hp;simpa using this);refine⟨σ,H2,a,cls,a0,rfl,J.alike Jc J.ok.hd λ p hp=>bc _ (show p∈pn by have:p∈pn++[]:=hp;simpa using this),?_,q⟩;obtain⟨oe,vs,T,oT,ts,h1,h2,h3,h4,h5,h6,h7,h8,h9,h10,h11,h12⟩:=fl.ex;exact⟨oe,vs,T,oT,ts,h1,h2,h3,h4,h5,h6,h7,h8,h9,h10,h11,λ b hb=>h12 b (I0.old hx hb)⟩
end
section
variable {X:Cx}{pins:gO}{σ:St}{H:Hp}{s:gM}{h':Heap}
theorem Inv.uc {mine:Addr->Prop}(J:Inv X pins σ H s)(n:zV (frs X.stack) mine s.heap h')(hm:∀ b,mine b->H b=U5/\X.s₀.heap.get? b=U5/\b≠X.env.locals/\(∀ x c,X.env.cells.lookup x=My c->c≠b)/\∀ p∈X.pn++pins,p.1≠b):Inv X pins σ H {s with heap:=h'}:=by
 have any:∀ b o,s.heap.get? b=My o->¬ mine b->∃ sl,h'.get? b=My {o with slots:=sl}:=λ b o e nm=>by
  by_cases c:b∈frs X.stack
  ·exact n.slot b o e c
  ·exact⟨o.slots,n.keep b o e c nm⟩
 have ent:∀ {b o},X.s₀.heap.get? b=My o->¬ mine b:=λ{b o} e z=>by rw[(hm b z).2.1]at e;cases e
 have entL:∀ {b o},X.s₀.heap.get? b=My o->b≠X.env.locals:=λ{b o} e=>aM (aG (av e) J.ok.above);have cellK:∀ x c,X.env.cells.lookup x=My c->∀ v,s.heap.IsCell c v->h'.IsCell c v:=λ x c e v ⟨o,ho,hd⟩=>by obtain⟨sl,z⟩:=any c o ho λ z=>(hm c z).2.2.2.1 x c e rfl;exact⟨_,z,hd⟩
 have nsub:∀ {b},b≠X.env.locals->b∉X.fs->b∉frs X.stack:=λ{b} h1 h2 z=>(aD.mp (J.wN b z)).elim h1 h2;refine⟨J.ok,J.os,J.bare,⟨λ b o e hn hb hx=>n.keep b o (J.base.keep b o e hn hb hx) (nsub (entL e) hb) (ent e),λ b o e hn hb hx=>?_,J.base.free,λ b o e hx=>?_,J.base.qq,J.base.qr,J.base.uE⟩,?_,λ x c e=>?_,J.free,J.mK,λ p hp=>?_,J.hok.uc n J.sX λ b z=>(hm b z).1,J.len⟩
 ·obtain⟨sl,e1⟩:=J.base.slot b o e hn hb hx;obtain⟨sl',e2⟩:=any b _ e1 (ent e);exact⟨sl',e2⟩
 ·obtain⟨o',e1⟩:=J.base.there b o e hx;obtain⟨sl,e2⟩:=any b o' e1 (ent e);exact⟨_,e2⟩
 ·obtain⟨m,⟨o,es,ep,ho,hd,hr⟩,hl⟩:=J.loc
  obtain⟨sl,z⟩:=any _ o ho λ z=>(hm _ z).2.2.1 rfl;refine⟨m,⟨_,es,ep,z,hd,hr⟩,λ i x v e1 e2 e3=>?_⟩;obtain⟨u,r,l⟩:=hl i x v e1 e2 e3;refine⟨u,r,?_⟩;rcases l with l | ⟨k,c,e,z⟩
  ·exact .inl l
  ·exact .inr ⟨k,c,e,cellK x c e _ z⟩
 ·obtain⟨v,z⟩:=J.cell x c e;exact⟨v,cellK x c e v z⟩
 ·obtain⟨e,hn,ne,nf,d⟩:=J.pin p hp;exact⟨n.keep p.1 p.2 e (nsub ne nf) λ z=>(hm _ z).2.2.2.2 p hp rfl,hn,ne,nf,d⟩
theorem Inv.O_ {D:Addr}{o:HO}(I:Inv X pins σ H s)(hn:H D=U5)(hs:X.s₀.heap.get? D=U5)(hL:D≠X.env.locals)(hc:∀ x c,X.env.cells.lookup x=My c->c≠D)(hp:∀ p∈X.pn++pins,p.1≠D)
  (new:jH X.prog X.w (upd H D o) s.heap D o):Inv X pins σ (upd H D o) s:=by
 have ne:∀ b u,H b=My u->b≠D:=λ b u e z=>by rw[z,hn]at e;cases e
 refine⟨I.ok,I.os,I.bare,⟨I.base.keep,I.base.slot,λ b ob e n hx=>?_,I.base.there,λ b xs e=>?_,λ b ob u e=>?_,λ b ps e=>?_⟩,I.loc,I.cell,?_,λ x c e=>?_,λ p hp'=>?_,λ b u e=>?_,I.len⟩
 ·have:b≠D:=λ z=>by rw[z,hs]at e;cases e
  rw[hU this];exact I.base.free b ob e n hx
 ·have q:=I.base.qq b xs e;rw[hU (ne _ _ q)];exact q
 ·have q:=I.base.qr b ob u e;rw[hU (ne _ _ q)];exact q
 ·obtain⟨more,q⟩:=I.base.uE b ps e;exact⟨more,by rw[hU (ne _ _ q)];exact q⟩
 ·rw[hU hL.symm];exact I.free
 ·rw[hU (hc x c e)];exact I.mK x c e
 ·obtain⟨a1,a2,a3⟩:=I.pin p hp';exact⟨a1,by rw[hU (hp p hp')];exact a2,a3⟩
 ·by_cases c:b=D
  ·subst c;rw[gZ]at e;cases e;exact new
  ·rw[hU c]at e;exact(I.hok b u e).wM (λ _ _ _ q=>q) (λ c' q=>by rw[hU (ne _ _ q)];exact q) λ c' xs q=>by rw[hU (ne _ _ q)];exact q
def isC (a:Addr)(cls:gL):Heap->Prop:=λ h=>∃ oe,h.get? a=My oe/\oe.cls=cls
theorem Pa {P:Program}{w:World}{h:Heap}{a:Addr}{cls:gL}(e:isC a cls h):jH P w H h a (.ext (isC a cls)):=by obtain⟨oe,e1,e2⟩:=e;exact⟨⟨oe,e1,e2⟩,⟨oe,e1⟩,λ h1 h2 ⟨o,z1,z2⟩ k=>⟨o,k o z1,z2⟩⟩
end
section
variable {M:Model}{A:Around}{E:gH}{s:gM}{base:Heap}{l:List Env}{e:Addr}{Q:Unit->gM->Prop}
set_option tactic.hygienic true in
theorem Gx (hF:s.heap.FunFrames base l){H:Hp}{Old:Addr->Prop}{cls a0:gL}(fl:Fly Old H s.heap e cls a0)
  (hT:∀ b,s.heap.get? b=U5->H b=U5/\¬ Old b) (q:∀ h' (T:Addr),H T=U5->¬ Old T->zV (frs l) (λ b=>b=e\/b=T) s.heap h'->Fly Old H h' e cls a0->Q () {s with heap:=h'}):wpAny M A (setFlight (.ref e) U5) Q E s:=by
 obtain⟨oe,vs,T,oT,ts,he,hc,h0,hd,h1,hne,hT0,hdT,hts,hH,HT,old⟩:=fl.ex;have fr:=frames_at hF;let B:=Ja s.heap λ b=>decide (b∈frs l\/b=e\/b=T);have hB:∀ b,B.get? b=if b∈frs l\/b=e\/b=T then U5 else s.heap.get? b:=λ b=>by rw[xV];by_cases c:b∈frs l\/b=e\/b=T<;>simp[c]
 have stays:B.StaysIn s.heap:=λ b o h=>by
  rw[hB]at h;split at h
  ·cases h
  ·exact h
 have hF':s.heap.FunFrames B l:=mF hF λ b hb=>by rw[hB,ai (.inl hb)]
 have Be:B.get? e=U5:=by rw[hB,ai (.inr (.inl rfl))]
 have BT:B.get? T=U5:=by rw[hB,ai (.inr (.inr rfl))]
 refine lands_againW (base:=B) (l:=l) (cls:=cls) (a0:=a0) ⟨stays,Be,hF',oe,vs,T,oT,ts,he,⟨hc,h0⟩,hd,h1,BT,hne,hT0,hdT,hts⟩ λ h2 fl2 up=>?_;obtain⟨st2,_,fr2,tr2⟩:=fl2;refine q h2 T HT (λ z=>(old T z).2 rfl) ⟨λ b o hb nf nm=>st2 b o (by rw[hB,au (λ z=>z.elim nf nm)];exact hb),λ b o hb hf=>?_⟩ ?_
 ·obtain⟨o2,ho2,hn⟩:=fr b hf;rw[hb]at ho2;cases ho2;exact up b o hb hn
 ·obtain⟨oe',vs',T',oT',ts',he',⟨hc',hv0⟩,hd',hv1,hBT,hne',hT',hdT',hts'⟩:=tr2
  have nT:H T'=U5/\¬ Old T':=by
   rw[hB]at hBT;split at hBT
   ·rename_i z
    rcases z with z | z | z
    ·obtain⟨o,ho,hn⟩:=frames_at fr2 T' z;rw[hT']at ho;cases ho;exact absurd hdT' (hn ts')
    ·exact absurd z hne'
    ·rw[z];exact⟨HT,λ z=>(old T z).2 rfl⟩
   ·exact hT T' hBT
  exact⟨oe',vs',T',oT',ts',he',hc',hv0,hd',hv1,hne',hT',hdT',hts',hH,nT.1,λ b hb=>⟨(old b hb).1,λ z=>nT.2 (z▸hb)⟩⟩
end
structure WT (K:gK)(mg:gG)(x:Str) extends ClT K mg x [] where
 w1:PySem.W.instIn K (.ref C) (.type "tuple")=My U7
 w2:PySem.W.subIn K (.ref C) (.type "BaseException")=My U6
section
variable {M:Model}{A:Around}{E:gH}{s:gM}{K:gK}{mg:gG}
set_option tactic.hygienic true in
theorem Gy {x:Str}(KX:K.In s.heap)(W:WT K mg x){a C:Addr}(ht:isC a (.ref C) s.heap)(sb:PySem.W.subIn K (.ref C) (.ref W.C)=My U6){Q:Bool->gM->Prop}(q:Q U6 s):wpAny M A (excMatches (.ref a) (.ref W.C)) Q E s:=by
 have keep:∀ b o,s.heap.get? b=My o->s.heap.get? b=My o:=λ _ _ h=>h;obtain⟨oe,e1,e2⟩:=ht;unfold excMatches;refine ae (PySem.W.looks_instIn KX W.w1 A _ E s keep ?_);rw[au ax];dsimp only;refine ae (af ?_);obtain⟨cd,hcd⟩:∃ cd,PySem.W.clsIn K W.C=My cd:=by
  have:=W.mro;cases q:PySem.W.clsIn K W.C with
  | none=>rw[q]at this;cases this
  | some cd=>exact⟨cd,rfl⟩
 obtain⟨oc,hoc,hdc⟩:∃ oc,s.heap.get? W.C=My oc/\oc.data=.cls cd:=by
  unfold PySem.W.clsIn at hcd;split at hcd
  ·rename_i o1 o2 o3 o4 o5 hl;cases hcd;exact⟨_,KX _ _ hl,rfl⟩
  ·cases hcd
 rw[eT];refine ae (ae (ae ?_));unfold isExcClass;refine ae (ks_wpAny_isType_cls hoc hdc ?_);rw[ai rfl];refine PySem.W.looks_subIn KX W.w2 A _ E s keep ?_;rw[au (by decide)];refine af ?_;dsimp only;rw[fT];refine af ?_;refine ae (wpAny_typeOf_ref e1 ?_);rw[e2,eT];refine ae (ae (ae (PySem.W.looks_subIn KX sb A _ E s keep ?_)));rw[ai rfl];refine af ?_;dsimp only;exact af (af q)
end
section
variable {X:Cx}{pins:gO}{σ:St}{H:Hp}{s:gM}
theorem Gz {M:Model}{A:Around}{E:gH}{i:Nat}{x:Str}{pos:Pos}(I:Inv X pins σ H s)(hN:X.N.Nodup)(hi:X.N[i]?=My x)(hk:X.env.scope.names.lookup x=My .local){Q:Unit->gM->Prop}
  (q:∀ s',Inv X pins (σ.set i U5) H s'->Q () s'):wpAny M A (do bindName X.env x .none;unbindBehindTheSuite X.env x pos) Q E s:=by
 have hiσ:i<σ.length:=by rw[I.len];exact(aN.mp hi).1
 have hcls:(X.env.scope.kind==.class || (X.env.scope.kind==.module&&X.env.locals != X.env.globals))=U7:=by rw[I.ok.kind];rfl
 refine ae (wpAny_bindName (oM I hN hi (.inl hk) (v:=.non) (u:=.none) rfl (λ s1 I1=>?_) (.inr hk)));unfold unbindBehindTheSuite;refine fF ?_;obtain⟨m,hn,hl⟩:=id I1.loc;have hm:∃ u,m x=My u:=by
  obtain⟨u,_,l⟩:=hl i x .non hi (by rw[cv hiσ]) (.inl hk);rcases l with⟨_,e⟩ | ⟨k,_⟩
  ·exact⟨u,e⟩
  ·have k:X.env.scope.names.lookup x=My .cell\/X.env.scope.names.lookup x=My .free:=k;rw[hk]at k;rcases k with k | k<;>cases k
 obtain⟨u0,hm⟩:=hm;refine wpAny_unbindName_local hk hn hm hcls λ h' u hn' hs=>q _ ?_;obtain⟨oL,_,_,hoL,_⟩:=id hn;have entL:∀ {b o},X.s₀.heap.get? b=My o->b≠X.env.locals:=λ{b o} e=>aM (aG (av e) I1.ok.above);refine⟨I1.ok,I1.os,I1.bare,⟨λ b o e n hb hx=>?_,λ b o e n hb hx=>?_,I1.base.free,λ b o e hx=>?_,I1.base.qq,I1.base.qr,I1.base.uE⟩,⟨_,hn',λ j y v' e1 e2 e3=>?_⟩,λ y c e=>?_,I1.free,I1.mK,λ p hp=>?_,λ b ob e=>?_,by have:=I1.len;simpa using this⟩
 ·exact(hs.2 b (entL e)).trans (I1.base.keep b o e n hb hx)
 ·obtain⟨sl,e1⟩:=I1.base.slot b o e n hb hx;exact⟨sl,(hs.2 b (entL e)).trans e1⟩
 ·obtain⟨o',e1⟩:=I1.base.there b o e hx;exact⟨o',(hs.2 b (entL e)).trans e1⟩
 ·by_cases hj:j=i
  ·subst hj;rw[cv hiσ]at e2;cases e2
  ·rw[bZ (aZ hj)]at e2
   obtain⟨u',r',l⟩:=hl j y v' e1 (by rw[bZ (aZ hj)];exact e2) e3;refine⟨u',r',?_⟩;rcases l with⟨k,e⟩ | ⟨k,c,e,z⟩
   ·refine .inl ⟨k,?_⟩;have:y≠x:=λ e=>hj (wO hN e1 (e▸hi));simp[this,e]
   ·exact .inr ⟨k,c,e,z.sameBut hs (I1.cne y c e)⟩
 ·obtain⟨w',z⟩:=I1.cell y c e;exact⟨w',z.sameBut hs (I1.cne y c e)⟩
 ·obtain⟨e,n,ne,nf,d⟩:=I1.pin p hp;exact⟨(hs.2 p.1 ne).trans e,n,ne,nf,d⟩
 ·refine(I1.hok b ob e).wM (λ c w' hc q=>(hs.2 c ?_).trans q) (λ _ q=>q) λ _ _ q=>q
  rintro rfl;rcases hc with rfl | hc
  ·rw[I1.free]at e;cases e
  ·rw[I1.free]at hc;cases hc
def T3 (n i:Nat)(K:gK)(Wc:Addr)(tb:XK->TS)(th:TS):TS:=λ D σ H=>∃ E':XK,tb E' D σ H/\∀ cls a H',E' cls (My a) H'->H' a=U5 ->
 (∃ C,cls=.ref C/\PySem.W.subIn K (.ref C) (.ref Wc)=My U6)/\∀ σ1:St,σ1.length=n->th {nx:=λ _ _=>False,rt:=D.rt} (σ1.set i (My (.ref a))) (upd H' a (.ext (isC a cls)))
theorem Pb {wn n:Str}{i:Nat}{body suite:List Stmt}{b₀:Stmt}{wp hp pos:Pos}{tb:XK->TS}{th:TS}(W:WT X.K X.mg wn)(hb:∀ E' pn,PSs (X.CL E' pn) body (tb E'))(hh:∀ a pn,PSs (X.hdC a pn) (b₀::suite) th)(hst:X.stack=X.env::X.outer:=by rfl)(hfr:X.env.frame=My X.env.locals:=by rfl)(hx:X.ex=[]:=by rfl)(hN:X.N.Nodup:=by trivial)(hi:X.N[i]?=My n:=by rfl)
  (hk:X.env.scope.names.lookup n=My .local:=by rfl) (hg:Gl X wn:=by rfl) (hdb:(wn==("__debug__":Str))=U7:=by decide) :
  PS X (.Try body [.ExceptHandler (My (.Name wn wp)) (My n) (b₀::suite) hp] [] [] pos) (T3 X.N.length i X.K W.C tb th):=by
 rintro pins s σ H D I ⟨E',h1,h2⟩;have up:∀ p∈X.pn++pins,p∈(X.pn++pins)++[]:=λ p hp=>by simpa using hp
 have dn:∀ p∈(X.pn++pins)++[],p∈X.pn++pins:=λ p hp=>by simpa using hp
 refine wpAny_Try_except (dh (hb E' (X.pn++pins) [] s σ H D (I.alike Gw I.ok.hd dn) h1) (λ f s1 h=>?_) λ e s1 h=>?_)
 ·cases f with
  | next =>obtain⟨σ',H',J,q⟩:=h;exact o_ pins s1 σ' H' D (J.alike rM I.ok.hd up) q
  | brk=>obtain⟨σ',H',J,q⟩:=h;exact⟨σ',H',J.alike rM I.ok.hd up,q⟩
  | cont=>obtain⟨σ',H',J,q⟩:=h;exact⟨σ',H',J.alike rM I.ok.hd up,q⟩
  | ret u=>obtain⟨v,σ',H',J,r,q⟩:=h;exact⟨v,σ',H',J.alike rM I.ok.hd up,r,q⟩
 ·obtain⟨σ1,H1,a,cls,a0,rfl,J,fl,q⟩:=h
  have newJ:∀ {s2:gM} {σ2:St},Inv (X.pnC (X.pn++pins)) [] σ2 H1 s2->∀ b,s2.heap.get? b=U5->H1 b=U5/\¬ Gv X (X.pn++pins) b:=λ{s2 σ2} J2 b hb=>⟨J2.hok.new hb,λ z=>J2.old hx z hb⟩;have mineOk:∀ b,¬ Gv X (X.pn++pins) b->H1 b=U5->H1 b=U5/\(X.pnC (X.pn++pins)).s₀.heap.get? b=U5/\b≠(X.pnC (X.pn++pins)).env.locals/\(∀ x c,(X.pnC (X.pn++pins)).env.cells.lookup x=My c->c≠b)/\∀ p∈(X.pnC (X.pn++pins)).pn++[],p.1≠b:=λ b nb hb =>⟨hb,ba λ z=>nb (.inl z),λ z=>nb (.inr (.inr (.inl z))),λ x c hc z=>nb (.inr (.inr (.inr ⟨x,z▸hc⟩))),λ p hp z=>nb (.inr (.inl ⟨p,dn p hp,z⟩))⟩
  have aOk:∀ {h:Heap},Fly (Gv X (X.pn++pins)) H1 h a cls a0->H1 a=U5/\¬ Gv X (X.pn++pins) a/\isC a cls h:=λ{h} fl=>by obtain⟨oe,vs,T,oT,ts,k1,k2,k3,k4,k5,k6,k7,k8,k9,k10,k11,k12⟩:=fl.ex;exact⟨k10,λ z=>(k12 a z).1 rfl,oe,k1,k2⟩
  have frs1:(X.pnC (X.pn++pins)).stack=X.env::X.outer:=hst;have hA:X.A.frames=My (X.env::X.outer):=by have:=I.ok.frames;rw[hst]at this;exact this
  have hF:s1.heap.FunFrames X.base (X.env::X.outer):=by have:=J.stack;rw[frs1]at this;exact this
  refine FD (L:=X.env.locals) hA hF hfr fl (newJ J) λ h3 T HT oT nt fl3=>?_;obtain⟨Ha,oa,_⟩:=aOk fl;have J3:Inv (X.pnC (X.pn++pins)) [] σ1 H1 {s1 with heap:=h3}:=J.uc (by rw[frs1];exact nt) λ b z=>by
   rcases z with z | z
   ·rw[z];exact mineOk a oa Ha
   ·rw[z];exact mineOk T oT HT
  obtain⟨_,_,ic3⟩:=aOk fl3;obtain⟨⟨C,rfl,sb⟩,h2⟩:=h2 cls a H1 q Ha;have K3:Inv (X.hdC a (X.pn++pins)) [] σ1 H1 {s1 with heap:=h3}:=J3.alike CM (λ z=>by cases z) λ p hp=>hp;refine wpAny_handleBy_cons (codeAny_handlers_test ?_) (by unfold byPass;intro z;cases z);refine sY (X:=X.hdC a (X.pn++pins)) K3 hg W.m (Gy K3.kIn W ic3 sb ?_) hdb;dsimp only;rw[ai rfl];dsimp only;refine codeAny_handlers_suite_as ?_;refine Gx (l:=X.env::X.outer) (base:=X.base) (by have:=J3.stack;rw[frs1]at this;exact this) fl3 (newJ J3) λ h4 T4 HT4 oT4 nt4 fl4=>?_;have J4:Inv (X.pnC (X.pn++pins)) [] σ1 H1 {s1 with heap:=h4}:=J3.uc (s:={s1 with heap:=h3}) (by rw[frs1];exact nt4) λ b z=>by
   rcases z with z | z
   ·rw[z];exact mineOk a oa Ha
   ·rw[z];exact mineOk T4 oT4 HT4
  obtain⟨_,_,ic4⟩:=aOk fl4;obtain⟨_,m2,m3,m4,m5⟩:=mineOk a oa Ha;have J5:Inv (X.pnC (X.pn++pins)) [] σ1 (upd H1 a (.ext (isC a (.ref C)))) {s1 with heap:=h4}:=J4.O_ Ha m2 m3 m4 m5 (Pa ic4);have K5:Inv (X.hdC a (X.pn++pins)) [] σ1 (upd H1 a (.ext (isC a (.ref C)))) {s1 with heap:=h4}:=J5.alike CM (λ z=>by cases z) λ p hp=>hp;refine oM (X:=X.hdC a (X.pn++pins)) K5 hN hi (.inl hk) (v:=.ref a) rfl (λ s6 K6=>?_) (.inr hk);refine dh (hh a (X.pn++pins) [] s6 _ _ _ K6 (h2 σ1 J.len)) (λ f s7 h=>?_) λ e s7 h=>False.elim h;cases f with
  | next=>obtain⟨_,_,_,z⟩:=h;exact False.elim z
  | brk=>obtain⟨_,_,_,z⟩:=h;exact False.elim z
  | cont=>obtain⟨_,_,_,z⟩:=h;exact False.elim z
  | ret u =>obtain⟨v,σ7,H7,K7,r,z⟩:=h;have J7:Inv X pins σ7 H7 s7:=K7.alike Jd I.ok.hd up;exact Gz J7 hN hi hk λ s8 J8=>⟨v,_,H7,J8,r,z⟩
end
structure ud (k:Nat)(A:Around):Prop where
 dp:A.depth+3*k+5<recursionLimit
 un:A.units+16*k+200<cLine
theorem ud.deeper {k:Nat}{A:Around}(r:ud (k+1) A)(env:Env):ud k (A.deeper env) :=
 ⟨by have:=r.dp;show A.depth+1+3*k+5<_;lia,by have:=r.un;show A.units+3+16*k+200<_;lia⟩
theorem jI.toN {j k:Nat}{A:Around}(r:jI k A)(h:j<=k)(v:gJ gL):ud j (A.mark v):=⟨by have:=r.dp;show A.depth+3*j+5<_;lia,by have:=r.un;show A.units+16*j+200<_;lia⟩
theorem ud.units {k:Nat}{A:Around}(r:ud k A):A.units+2<cLine:=by have:=r.un;lia
structure Je (P:Program)(w:World)(K:gK)(mg:gG)(base:Heap)(k:Nat)(f:Addr)(fd:FuncData)(ps:List Str)(sp:Sp):Prop where
 len:∀ vs H Q E,sp vs H Q E->vs.length=ps.length
 run:∀ (A:Around) (outer:List Env) (s:gM) (H:Hp) (args:Args) (us:List gL) (vs:List V) (Q:VK) (E:XK),ud k A->F3 P w K mg base A outer s H->BindsTo s fd args (ps.zip us)->Vals vs us->sp vs H Q E ->
  codeAny (model P w) A (.call (.ref f) args) (CR CX0 outer P w H s Q E) s
def Cx.Pc (X:Cx):Cx:={X with calm:=U7}
section
variable {P:Program}{w:World}{K:gK}{mg:gG}{base:Heap}{x qual:Str}{st:Stmt}{f:Addr}{fd:FuncData}{N ps:List Str}{k:Nat}{sp:Sp}
theorem Fun.okN (F:Fun K x qual st f fd)(S:il N ps (gY st))(len:∀ vs H Q E,sp vs H Q E->vs.length=ps.length)
  (hbody:∀ (cdv:gL) (A:Around) (outer:List Env) (s:gM) (H:Hp) (vs:List V) (Q:VK) (E:XK),ud k (A.deeper (envOfC qual (gY st) s.heap.objs.size f cdv))->sp vs H Q E ->
   ∃ t,PSs (qt CX0 P w K mg base N qual (gY st) f cdv A outer s H E).Pc (iU st) t/\t {nx:=λ _ H'=>Q .non H',rt:=Q} (start N vs) H):Je P w K mg base (k+1) f fd ps sp:=by
 obtain⟨oc,od,kV,doc,pm,an,cdv,ct,osl,rfl,lk,hcd⟩:=F.ex;refine⟨len,λ A outer s H args us vs Q E hr e0 hb r hsp=>?_⟩;have hl:=len _ _ _ _ hsp;have KX:K.In s.heap:=e0.mod.kin.keeps λ b o e=>(e0.bs b o e).1;have lim:s.heap.NoLimit:=e0.mod.nolimit.keeps λ b o e=>(e0.bs b o e).1;have hkind:∀ y∈ps.zip us,(gY st).names.lookup y.1=My .local\/((gY st).names.lookup y.1=My .cell/\((cellsFrom (s.heap.objs.size+1) (gY st).names []).lookup y.1).isSome=U6):=λ⟨n,v⟩ hy=>by
  rcases S.par n (eS hy).1 with q | q
  ·exact .inl q
  ·exact .inr ⟨q,fb _ _ _ (.inl q)⟩
 refine codeAny_call_function (by have:=hr.dp;lia) (KX _ _ lk) rfl S.co S.gen rfl (PySem.W.codeRec_of KX hcd) (hb _ _ _ _ ?_);refine wpAny_newFunctionEnv_cells S.kind hkind λ env he s1 x=>?_;subst he;refine⟨lim.keeps x.toInCall.keep,codeAny_func ?_⟩;obtain⟨t,ht,hq⟩:=hbody cdv A outer s H vs Q E (hr.deeper _) hsp;have e1:F3 P w K mg base {A with handled:=U5} outer s H:=⟨e0.frames,e0.mod,e0.bs,e0.bsz,e0.uF,e0.frf,e0.hok,e0.bare⟩;have I0:Inv (qt CX0 P w K mg base N qual (gY st) f cdv {A with handled:=U5} outer s H E) [] (start N vs) H s1:=zA S rfl e1 hl r x;have I:Inv (qt CX0 P w K mg base N qual (gY st) f cdv A outer s H E).Pc [] (start N vs) H s1:=Inv.alike (X:=qt CX0 P w K mg base N qual (gY st) f cdv {A with handled:=U5} outer s H E) ⟨rfl,rfl,rfl,rfl,rfl,rfl,rfl,rfl,rfl,rfl,rfl,rfl,rfl,rfl⟩ I0 (λ z=>by cases z) λ p hp=>hp;refine dh (ht [] s1 (start N vs) H _ I hq) (λ fl s' hs=>?_) λ e s' hs=>hs;have fin:∀ {σ':St} {H':Hp} {v:V} {u:gL},Inv (qt CX0 P w K mg base N qual (gY st) f cdv A outer s H E).Pc [] σ' H' s'->RelV v u->Q v H'->CE outer P w H s Q u s' :=
  λ{σ' H' v u} J rv q=>⟨v,H',J.os,J.bare,J.base,J.hok,rv,q⟩
 cases fl with
 | ret u =>obtain⟨v,σ',H',J,rv,q⟩:=hs;exact fin J rv q
 | next =>obtain⟨σ',H',J,q⟩:=hs;exact fin (v:=V.non) (u:=Value.none) J rfl q
 | brk =>obtain⟨_,_,_,q⟩:=hs;exact False.elim q
 | cont =>obtain⟨_,_,_,q⟩:=hs;exact False.elim q
theorem Fun.okE (F:Fun K x qual st f fd)(S:il N ps (gY st))(len:∀ vs H Q E,sp vs H Q E->vs.length=ps.length)
  (hbody:∀ (cdv:gL) (A:Around) (outer:List Env) (s:gM) (H:Hp) (vs:List V) (Q:VK) (E:XK),jI k (A.deeper (envOfC qual (gY st) s.heap.objs.size f cdv))->sp vs H Q E ->
   ∃ t,PSs (cxE P w K mg base N qual (gY st) f cdv A outer s H E) (iU st) t/\t {nx:=λ _ H'=>Q .non H',rt:=Q} (start N vs) H):pg P w K mg base (CXE P w) (k+1) f fd ps sp:=by
 obtain⟨oc,od,kV,doc,pm,an,cdv,ct,osl,rfl,lk,hcd⟩:=F.ex;exact MS lk hcd S len λ A outer s H vs Q E hr hsp=>hbody cdv A outer s H vs Q E hr hsp
end
section
variable {X:Cx}{e:Expr}{es:List Expr}{pos p:Pos}{x:Str}{st:Stmt}{j k n:Nat}{ps:List Str}
theorem pCN {sp:Sp}{t:TA}(T:FnT X.K X.mg x st ps)(F:Je X.prog X.w X.K X.mg X.base k T.f T.fd ps sp)(hr:ud k X.A)(ha:PA X (e::es) t)(hg:Gl X x:=by rfl)(hdb:(x==("__debug__":Str))=U7:=by decide)(he:starEach (e::es) X.env=(U7,eval e X.env)::starEach es X.env:=by rfl)(hpl:(backTo pos (starEach es X.env)).any (·.1)=U7:=by rfl) :
  PE X (.Call (.Name x p) (e::es) [] pos) (jD sp [] E0 t):=by
 intro pins s σ H Q I h;refine eU (sY I hg T.m ?_ hdb);refine PySem.W.callWith_K (h₀:=X.base) I.ok.mod.kin T.F.kp (thn (ha pos pins s σ H _ I h) λ us s1 ⟨vs,H1,I1,r,q⟩=>⟨I1.kIn,?_⟩) he hpl;have q:sp vs H1 Q E0:=by have q:sp (vs++[]) H1 Q E0:=q;rwa [bB]at q
 have hl:(us++[]).length=ps.length:=by rw[bB,<-r.length];exact F.len _ _ _ _ q
 refine gf (codeAny_mono (F.run X.A X.stack s1 H1 ⟨us,[]⟩ us vs Q E0 hr I1.QI (by have:=T.b s1 us I1.kIn hl;rwa [bB]at this) r q) λ r s' hq=>?_);cases r with
 | error e=>exact False.elim hq
 | ok fl =>
  cases fl with
  | ret u=>exact I1.after hq
  | next=>exact False.elim hq
  | brk=>exact False.elim hq
  | cont=>exact False.elim hq
theorem pCE {P:Program}{w:World}{K:gK}{mg:gG}{base:Heap}{N:List Str}{qual:Str}{scope:Scope}{f:Addr}{cd:gL}{A:Around}{outer:List Env}{s:gM}{H:Hp}{E:XK}{sp:Sp}{t:TA}(T:FnT K mg x st ps)(F:pg P w K mg base (CXE P w) k T.f T.fd ps sp)(hr:jI j (cxE P w K mg base N qual scope f cd A outer s H E).A)(ha:PA (cxE P w K mg base N qual scope f cd A outer s H E) (e::es) t)(hj:k<=j:=by decide)(hg:Gl (cxE P w K mg base N qual scope f cd A outer s H E) x:=by rfl)(hdb:(x==("__debug__":Str))=U7:=by decide)(he:starEach (e::es) (cxE P w K mg base N qual scope f cd A outer s H E).env=(U7,eval e (cxE P w K mg base N qual scope f cd A outer s H E).env)::starEach es (cxE P w K mg base N qual scope f cd A outer s H E).env:=by rfl)(hpl:(backTo pos (starEach es (cxE P w K mg base N qual scope f cd A outer s H E).env)).any (·.1)=U7:=by rfl) :
  PE (cxE P w K mg base N qual scope f cd A outer s H E) (.Call (.Name x p) (e::es) [] pos) (jD sp [] E t):=s_ (X:=cxE P w K mg base N qual scope f cd A outer s H E) F (hr.mono hj) hg T.m T.F.kp T.b .nil (Ro λ _ _ _ h=>h) ha hdb he hpl
theorem pCT {E':XK}{pn:gO}{sp:Sp}{t:TA}(T:FnT X.K X.mg x st ps)(F:pg X.prog X.w X.K X.mg X.base (CXE X.prog X.w) k T.f T.fd ps sp)(hr:jI j X.A)(ha:PA (X.CL E' pn) (e::es) t)(hx:X.ex=[]:=by rfl)(hj:k<=j:=by decide)(hg:Gl X x:=by rfl)(hdb:(x==("__debug__":Str))=U7:=by decide)(he:starEach (e::es) X.env=(U7,eval e X.env)::starEach es X.env:=by rfl)(hpl:(backTo pos (starEach es X.env)).any (·.1)=U7:=by rfl) :
  PE (X.CL E' pn) (.Call (.Name x p) (e::es) [] pos) (jD sp [] E' t):=s_ (X:=X.CL E' pn) F (hr.mono hj) hg T.m T.F.kp T.b .nil (O9 rfl rfl hx) ha hdb he hpl
end
end L2
namespace HT
open PySem PySem.Spec PyProof.Rows
variable {prog:Program}{w:World}{A:Around}{E:gH}{s:gM}
theorem sP {t sl:Addr}{items:Array gL}{vl vu:gL}{lo hi:gJ Int}{Q:gH}(ht:IsTup s.heap t items)(hs:s.heap.IsSliceOf sl vl vu .none)(pl:IsPart vl lo)(pu:IsPart vu hi)
  (h1:sIx items.size 0 lo=0) (h2:sIx items.size items.size hi=items.size)
  (h:Q (.ref t) s):wpAny (model prog w) A (getItem (.ref t) (.ref sl)) Q E s:=by
 obtain⟨os,hos,hcs,hds⟩:=id hs;have hTs:s.TypeIs (.ref sl) "slice":=⟨os,hos,hcs⟩;unfold getItem;try with_reducible refine bQ ?_
 first | refine ae (af ?_) | skip
 refine ae (fW ht.typeIs (by decide) ?_);refine ae (bP (name:=Str.ofString "__getitem__") ht.typeIs aY
  (bY aY ht.typeIs entry_tuple_getitem ?_ (args_tuple_getitem _ _)))
 show wpAny _ _ (Builtin.Tuple.tupleItemsOf (.ref t)>>=_) _ _ s;refine ae (tupleItemsOf_ ht ?_);refine ae (fe hTs ?_);rw[ai (by decide)];refine ae (oO hs pl pu ?_);show wpAny _ _ (if (((sIx items.size 0 lo:Nat):Int)==0&&(1:Int)==1&&(sIx items.size items.size hi-sIx items.size 0 lo)==items.size)=U6 then _ else _) _ _ s;rw[ai (by rw[h1,h2];simp)];refine ae (m:=Builtin.Tuple.tupleIsExact _) (ae (fe ht.typeIs (af ?_)));rw[ai (by decide)];refine ae (f_ ?_);exact af ⟨_,rfl,af h⟩
end HT
namespace L2
open PySem PySem.Spec PyProof.Rows Zp Qs
variable {X:Cx}
def T5 (K:gK):V->gJ Int->gJ Int->Hp->VK->Prop:=λ x lo hi H Q=>∃ a xs,x=.ref a/\SqT K H a xs /\
 (HT.sIx xs.length 0 lo=0/\HT.sIx xs.length xs.length hi=xs.length)/\Q (.ref a) H
theorem A_:SlR X (T5 X.K):=by
 intro pins s σ H x v vl vu lo hi sl Q I rx hs pl pu h;obtain⟨a,xs,rfl,hx,hw,q⟩:=h;cases rx;obtain⟨its,r,ht,hz⟩:=I.tuple hx;have hlen:its.toArray.size=xs.length:=by rw[ar];exact r.length.symm
 refine⟨"tuple",_,aY.lookup,ht.typeIs,?_⟩;exact HT.sP ht hs pl pu (by rw[hlen];exact hw.1) (by rw[hlen];exact hw.2) ⟨.ref a,H,I,rfl,q⟩
def Jf:Dt->gJ Dt
 | .tup ds=>My (.tup ds.tail)
 | _=>U5
def Ef (g:DE->gJ Dt):DE->gJ Dt:=λ δ=>(g δ).bind Jf
theorem LJ {ga:DE->gJ Dt}{j:Nat}{p p2 pos:Pos}{a:Expr}(ha:PD X a ga):PD X (.Subscript a (.Slice (My (.Constant (.int 1) j p)) U5 U5 p2) pos) (Ef ga) :=
 (xa (Dz.or A_) ha (As (ic (i:=1))) Ar).of λ σ H Q hz1=>by
  obtain⟨δ,d,S,e,q⟩:=hz1;obtain⟨x,e1,e2⟩:=gU e;match x,e1,e2 with
  | .tup [],e1,e2 =>cases e2;refine⟨δ,_,S,e1,λ v H1 s1 i1=>?_⟩;obtain⟨p,xs,rfl,hp,is⟩:=i1.iI;cases is;exact⟨1,rfl,.inr ⟨p,[],rfl,hp,⟨rfl,rfl⟩,q _ _ s1 i1⟩⟩
  | .tup (d0::ds),e1,e2 =>
   cases e2;refine⟨δ,_,S,e1,λ v H1 s1 i1=>?_⟩;obtain⟨p,xs,rfl,hp,is⟩:=i1.iI;cases is with
   | cons i1 i2 =>
    refine⟨1,rfl,.inl ⟨p,_,rfl,hp,?_,λ p' hp'=>?_⟩⟩
    ·rintro⟨z,_⟩;have z:HT.sIx _ 0 (My ((1:Nat):Int))=0:=z;rw[HT.og]at z;simp at z
    ·refine q _ _ (s1.trans (g6.upd hp')) (.tup (SqT.of gZ) ?_);rw[Gi];exact i2.ext (g6.upd hp')
def ny:List Dt->gJ Dt
 | [x]=>(dTt x).bind λ l=>if l.length<=1000 then My (.bl (rise l)) else U5
 | _=>U5
def pN:DE->gJ RD:=(kc (iM xD (gP (gLC ["one","following"] [] (Li U6 U6 (gP (gT 0) (gP (Ef (gT 0)) gS))) (nc 0 1) jd (g_ Ik (gT 0) (gT 1))) gS)))
set_option tactic.hygienic true in
theorem zc:Hg 1 Cv ny pN:=by
 intro ds d hl h;match ds,h with
 | [x],h =>
  obtain⟨l,e1,h⟩:=gU (show(dTt x).bind _=_ from h);split at h
  ·rename_i hc
   cases h;rw[wk e1];refine⟨.rt (.bl (rise l)),?_,rfl⟩;have lc:=jo (enc:=λ pq:(Nat×Nat)×(Nat×Nat)=>Dt.tup [hJ pq.1,hJ pq.2]) (gg:=nc 0 1) (ge:=g_ Ik (gT 0) (gT 1)) (δc:=[U5,U5]) (δa:=λ pq=>[My (hJ pq.1),My (hJ pq.2)]) (enc':=λ pq=>.bl (mX pq.1 pq.2)) (l.zip l.tail) λ a _=>⟨rfl,by simp[hJ,gR,Ik,mM,tN,mX]⟩
   have ez:=Lp l;have e2:(l.zip l.tail).map (λ pq=>Dt.bl (mX pq.1 pq.2))=((l.zip l.tail).map λ pq=>mX pq.1 pq.2).map Dt.bl:=by simp
   rw[e2]at lc;have e3:((l.zip l.tail).map λ pq=>mX pq.1 pq.2).all id=rise l:=by simp[rise,fk,br]
   have e4:(l.zip l.tail).length<=1000:=by rw[List.length_zip];lia
   have e6:H_ U6 U6 [iK l,.tup (l.tail.map hJ)]=My ((l.zip l.tail).map λ pq=>Dt.tup [hJ pq.1,hJ pq.2]):=by rw[<-ez];rfl
   have e7:Jf (iK l)=My (.tup (l.tail.map hJ)):=by rw[List.map_tail];rfl
   generalize (l.zip l.tail).map (λ pq=>mX pq.1 pq.2)=bs at lc e3;generalize hzs:(l.zip l.tail).map (λ pq=>Dt.tup [hJ pq.1,hJ pq.2])=zs at lc e6;have e8:zs.length<=1000:=by rw[<-hzs,ah];exact e4
   rw[show l.tail.map hJ=(l.map hJ).tail from by simp]at e6 e7;simp[pN,Ef,e7,e6,e8,lc,e3]
  ·cases h
section
variable {w wt:Web}(g:Good w)
include g
omit g in
def nrL (w:Web)(i:Nat):List Nat:=(U8 w.1).filter λ o=>decide (xT i o∈w.2)
theorem Good.Pd {i o:Nat}:o∈nrL w i↔o∈nb w.2 i:=by unfold nrL;rw[bH,aC,decide_eq_true_iff,<-g.O1];exact⟨λ h=>h.2,λ h=>⟨(g.qm h).1,h⟩⟩
end
end L2
namespace L2
open PySem PySem.Spec PyProof.Rows PySem.W Builtin Builtin.ObjectAttr Builtin.Getset_descriptor
structure ExT (K:gK)(C:Addr):Prop where
 ga:findIn K (.ref C) "__getattribute__"=My (My (.builtin "BaseException.__getattribute__"))
 gh:findIn K (.ref C) "__getattr__"=My U5
 cl:findIn K (.ref C) "__class__"=My (My (.builtin "object.__class__"))
 sp:specialIn K (.builtin "object.__class__") "__get__"=My (My (.builtin "getset_descriptor.__get__"))
 tk:takesIn K (.builtin "object.__class__")=My U6
 mo:mroIn K C (.type "object")=My U6
 sb:subIn K (.ref C) (.type "BaseException")=My U6
 is:(clsIn K C).isSome=U6
section
variable {prog:Program}{w:World}{A:Around}{E:gH}{s:gM}{K:gK}{x C:Addr}
theorem oZ {M:Model}{h:Heap}(e:isC x (.ref C) h):Looks M h (typeOf (.ref x)) (.ref C):=by obtain⟨oe,e1,e2⟩:=e;rw[<-e2];exact(Looks.ld e1).andThen .now
theorem LK {R:Result->gM->Prop}{tp:gL}(X:K.In s.heap)(I:isC x (.ref C) s.heap)(hm:mroIn K C (.type "object")=My U6)
  (h:R (.ok (.ret (.ref C))) s):codeAny (model prog w) A (.call (.builtin "getset_descriptor.__get__") ⟨[.builtin "object.__class__",.ref x,tp],[]⟩) R s:=by
 obtain⟨hh,g,dr,t,os⟩:=s;have L0:=oZ (M:=model prog w) I;have L1:=looks_mroIn (M:=model prog w) X hm;refine codeAny_call_builtin KF.slot_gs.plain KF.entry_gs (KF.slot_gs.check _ _ _ _ _ _ _ _ KF.type_class (KF.args_gs _ _ _) ?_);unfold Builtin.«getset_descriptor.__get__» descrGet;rw[dga_obj];refine ae (af ?_);unfold descrGetter descrCheckInstance descrNameAndClass isInstance;simp only[KF.owner_class];repeat lk
 refine⟨fS _ (by decide +kernel),codeAny_builtin KF.entry_class ?_⟩;unfold Builtin.«object.__class__» shownTypeOf;repeat lk
 exact h
theorem GA {tk:Tok}{Q:Fin->gM->Prop}(X:K.In s.heap)(T:ExT K C)(I:isC x (.ref C) s.heap)(hq:Q (.done (.ret (.ref C))) s) :
  wpAny (model prog w) A (Builtin.«object.__getattribute__» ⟨[.ref x,.str "__class__" tk],[]⟩) Q E s:=by
 obtain⟨hh,g,dr,t,os⟩:=s;have L0:=oZ (M:=model prog w) I;have L1:=looks_findIn (M:=model prog w) X T.cl;have L2:=looks_specialIn (M:=model prog w) X T.sp;have L3:=looks_takesIn (M:=model prog w) X T.tk;unfold Builtin.«object.__getattribute__»;repeat lk
 refine wpAny_run (h:=U5) (LK X I T.mo ?_);exact af (af hq)
theorem GB {M:Model}{nameV:gL}{Q:Unit->gM->Prop}(X:K.In s.heap)(T:ExT K C)(I:isC x (.ref C) s.heap)(hq:Q () s):wpAny M A (checkBuiltinCall "BaseException.__getattribute__" ⟨[.ref x,nameV],[]⟩) Q E s:=by
 obtain⟨hh,g,dr,t,os⟩:=s;have hk:builtinKind "BaseException.__getattribute__"=My .slot:=by decide +kernel
 have hsplit:splitId "BaseException.__getattribute__"=My ("BaseException","__getattribute__"):=by decide +kernel
 have ha:=F.args_bexc_ga (.ref x) nameV;have L0:=oZ (M:=M) I;have L1:=looks_subIn (M:=M) X T.sb;simp only[checkBuiltinCall,hk,hsplit];refine ae ?_;unfold isInstance;repeat lk
 exact hq
theorem GC {Q:gJ gL->gM->Prop}(X:K.In s.heap)(T:ExT K C)(I:isC x (.ref C) s.heap)(h:Q (My (.ref C)) {s with toks:=s.toks+1}):wpAny (model prog w) A (getAttr? (.ref x) "__class__") Q E s:=by
 obtain⟨hh,g,d,t,os⟩:=s;have L0:=oZ (M:=model prog w) I;have L1:=looks_findIn (M:=model prog w) X T.ga;have L2:=looks_findIn (M:=model prog w) X T.gh;unfold getAttr? getAttrBy? getAttrBy;refine ae (wpAny_mkText (ae (eQ (bQ (ae (L0.at (ae (L1.at ?_))))))));have hx2:(Value.builtin "BaseException.__getattribute__"==Value.builtin "object.__getattribute__")=U7:=by decide +kernel
 have hx1:(onTheHeap (Value.ref C)&&Value.builtin "BaseException.__getattribute__"==Value.builtin "object.__getattribute__")=U7:=by rw[hx2];rfl
 dsimp only;rw[au (by rw[hx1];exact ax)];unfold getAttrByItsOwn hookBefore;rw[ai (by rfl)];refine ae (L2.at (ae (eQ (bQ ?_))));unfold callGetattribute boundAndCalled;rw[au (by decide)];rw[F.excAttr_ValueError.ga.bind (.ref x)];refine ae (af (gf (codeAny_call_builtin F.excAttr_ValueError.ga.plain F.entry_bexc_ga (GB X T I (GA X T I ?_)))));exact handed_on rfl (af h)
set_option tactic.hygienic true in
theorem Jg (T:ExT K C):KitX K (.ref x) (.ref C) (isC x (.ref C)) where
 ty:=λ _ _ _ I=>oZ I
 it:=λ _ _ X _=>by
  obtain⟨cdD,hcD⟩:=cP.mp T.is;unfold clsIn at hcD;split at hcD
  ·rename_i c' d' cd' sl' ho;intro A' Q' E' s' k q;unfold isType loadHead;exact ae (wpAny_loadPart (k _ _ (X _ _ ho)) (af q))
  ·cases hcD
 ne:=λ h tp dd its n sl X htp=>by
  obtain⟨cdD,hcD⟩:=cP.mp T.is;refine Bool.eq_false_iff.mpr λ q=>?_;have e:C=tp:=Value.ref.inj (beq_iff_eq.mp q);subst e;unfold clsIn at hcD;split at hcD
  ·rename_i c' d' cd' sl' ho;have z:=(X _ _ ho).symm.trans htp;cases z
  ·cases hcD
 ca:=λ X I k=>GC X T I k
end
def T6 (K:gK)(c:gL)(b:Bool):List V->Hp->VK->Prop:=λ xs H Q=>∃ a C v,xs=[.ref a,v]/\RelV v c/\H a=My (.ext (isC a (.ref C)))/\ExT K C/\kitOne K (.ref C) c=My b/\Q (.bl b) H
end L2
namespace L2
open PySem PySem.Spec PyProof.Rows Zp Qs PySem.SeqAt
section
variable {X:Cx}{o e:Expr}{p pos:Pos}
theorem Rp {c:gL}{b:Bool}:jy X (.builtin "isinstance") (T6 X.K c b):=by
 intro pins s σ H xs us Q I rs h;obtain⟨a,C,v,rfl,rv,ha,T,k,q⟩:=h;obtain⟨u,u',rfl,r1,r2⟩:=vals2 rs;cases r1;have e:u'=c:=by
  cases v with
  | ref z=>exact(show u'=Value.ref z from r2).trans (show c=Value.ref z from rv).symm
  | ty n=>exact(show u'=Value.type n from r2).trans (show c=Value.type n from rv).symm
  | non=>exact(show u'=Value.none from r2).trans (show c=Value.none from rv).symm
  | bl b=>exact(show u'=Value.bool b from r2).trans (show c=Value.bool b from rv).symm
  | int i=>obtain⟨t,rfl⟩:=rv;cases k
  | str i=>obtain⟨t,rfl⟩:=rv;cases k
  | byt i=>obtain⟨t,rfl⟩:=rv;cases k
  | flt i=>obtain⟨t,rfl⟩:=rv;cases k
 subst e;have ok:jH X.prog X.w H s.heap a (.ext (isC a (.ref C))):=I.hok a _ ha;exact PySem.W.kia_one (Jg T) I.kIn ok.1 k (λ z=>nomatch z) λ tk=>⟨.bl b,H,I.tok _,rfl,q⟩
def Nn (x y:Dt):gJ Dt:=(tR x).bind λ es=>(yX es).bind λ bs=>match y with
 | .bl U6=>My (.int (bs.countP id:Nat))
 | _=>U5
def Np (x y:Dt):gJ Dt:=(tR x).bind λ es=>(yX es).bind λ bs=>match y with
 | .bl U6=>if bs.length<=1000 then (bs.findIdx? id).map λ(j:Nat)=>Dt.int j else U5
 | _=>U5
def Rq (K:gK):V->List V->Hp->VK->Prop:=λ x xs H Q=>∃ bs:List Bool,xs=[.bl U6]/\Is K H x (.lst (bs.map .bl))/\Q (.int (bs.countP id:Nat)) H
def Rr (K:gK):V->List V->Hp->VK->Prop:=λ x xs H Q=>∃ (bs:List Bool) (j:Nat),xs=[.bl U6]/\Is K H x (.lst (bs.map .bl))/\bs.length<=1000/\bs.findIdx? id=My j/\Q (.int j) H
theorem xX {K:gK}{H:Hp}:∀ {bs:List Bool} {xs:List V} {its:List gL},Iss K H xs (bs.map .bl)->Vals xs its->its=bs.map Value.bool
 | [],_,_,js,r=>by cases js;cases r;rfl
 | b::bs,_,_,js,r=>by
  cases js with
  | cons i is =>
   cases r with
   | cons r rs =>rw[i.jY]at r;cases r;rw[xX is rs];rfl
theorem xY {A:Around}{s:gM}{w:gL}{bs:List Bool}(hw:w∈(bs.map Value.bool).toArray):EqAt A s w (.bool U6) (w==.bool U6):=by
 obtain⟨b,_,rfl⟩:=aE.mp (List.mem_toArray.mp hw);have:=EqAt.bool_bool (A:=A) (s:=s) b U6;have e:(Value.bool b==Value.bool U6)=(b==U6):=by cases b<;>rfl
 rw[e];exact this
theorem LL:MtR X "list.count" (Rq X.K):=by
 intro pins s σ H x xs v us Q I rx rv h;obtain⟨bs,rfl,i1,q⟩:=h;obtain⟨u,rfl,ru⟩:=rv.one;cases ru;obtain⟨p,ys,rfl,hp,js⟩:=i1.lst_inv;cases rx;obtain⟨its,rvs,pl,hz⟩:=I.list (SqL.of hp);have e:=xX js rvs;subst e;obtain⟨⟨cls,dd,data,sl⟩,ho,hc,n,hd⟩:=id pl.isList;simp only at hc hd;subst hc hd;refine call_meets F.slot_list_count ⟨_,ho,rfl⟩ F.entry_list_count (F.args_list_count_2 _ _) (list_countAt p (bs.map Value.bool).toArray n dd sl (.bool U6) (λ w=>w==.bool U6)) ⟨ho,λ w hw=>xY hw,?_⟩;have e:(bs.map Value.bool).toArray.toList.countP (λ w=>w==Value.bool U6)=bs.countP id:=by rw[List.toList_toArray,List.countP_map];congr 1;funext b;cases b<;>rfl
 rw[e];exact⟨.int (bs.countP id:Nat),H,I.tok _,⟨_,rfl⟩,q⟩
theorem LM:MtR X "list.index" (Rr X.K):=by
 intro pins s σ H x xs v us Q I rx rv h;obtain⟨bs,j,rfl,i1,hl,fj,q⟩:=h;obtain⟨u,rfl,ru⟩:=rv.one;cases ru;obtain⟨p,ys,rfl,hp,js⟩:=i1.lst_inv;cases rx;obtain⟨its,rvs,pl,hz⟩:=I.list (SqL.of hp);have e:=xX js rvs;subst e;obtain⟨⟨cls,dd,data,sl⟩,ho,hc,n,hd⟩:=id pl.isList;simp only at hc hd;subst hc hd;obtain⟨hj,hj1,hj2⟩:=List.findIdx?_eq_some_iff_getElem.mp fj;refine call_meets F.slot_list_index ⟨_,ho,rfl⟩ F.entry_list_index (F.args_list_index_2 _ _) (list_indexAt p (bs.map Value.bool).toArray n dd sl (.bool U6) (λ w=>w==.bool U6) j (by simpa using hj) (by lia) (by
  have:bs[j]=U6:=hj1;simp[this]) (λ m hm hmj=>by
  have:¬ bs[m]=U6:=hj2 m hmj;have:bs[m]=U7:=by simpa using this
  simp[this])) ⟨ho,λ w hw=>xY hw,?_⟩
 exact⟨.int j,H,I.tok _,⟨_,rfl⟩,q⟩
theorem Pe {apos cpos:Pos}{ga gb:DE->gJ Dt}(ha:PD X o ga)(hb:PD X e gb)(hbase:attributeBase o "count" X.env (eval o X.env)=eval o X.env:=by rfl)
  (hfew:((backTo cpos (starEach [e] X.env)).all (λ x=>!x.1)&&(backToKw cpos (keywordEach [] X.env)).all (λ x=>x.1.isSome)&&decide (([e]:List Expr).length+([]:List Keyword).length+(if ([]:List Keyword).isEmpty then 0 else 1)<30))=U6:=by rfl)
  (hline:(apos.endLine==cpos.line)=U6:=by rfl) (hs:starEach [e] X.env=[(U7,eval e X.env)]:=by rfl):PD X (.Call (.Attribute o "count" apos) [e] [] cpos) (g_ Nn ga gb) :=
 (xc F.plainAttrs_list F.slot_list_count F.type_list_count LL ha (gW hb hZ hs) hbase hfew hline hs).of λ σ H Q hz=>by
  obtain⟨δ,d,S,e1,q⟩:=hz;obtain⟨x,y,f1,f2,f3⟩:=xw e1;obtain⟨es,g1,g2⟩:=gU f3;obtain⟨bs,g3,g4⟩:=gU g2;obtain rfl:=kP g1;obtain rfl:=tQ g3;match y,g4,f2 with
  | .bl U6,g4,f2 =>cases g4;refine⟨δ,_,S,f1,λ v H1 s1 i1=>?_⟩;obtain⟨a,xs,rfl,hq,is⟩:=id i1.lst_inv;refine⟨.inl ⟨rfl,xs,SqL.of hq⟩,δ,_,S.ext s1,f2,λ v2 H2 s2 i2=>?_⟩;exact⟨bs,by rw[i2.jY],i1.ext s2,q _ H2 (s1.trans s2) (.int _)⟩
theorem Pf {apos cpos:Pos}{ga gb:DE->gJ Dt}(ha:PD X o ga)(hb:PD X e gb)(hbase:attributeBase o "index" X.env (eval o X.env)=eval o X.env:=by rfl)
  (hfew:((backTo cpos (starEach [e] X.env)).all (λ x=>!x.1)&&(backToKw cpos (keywordEach [] X.env)).all (λ x=>x.1.isSome)&&decide (([e]:List Expr).length+([]:List Keyword).length+(if ([]:List Keyword).isEmpty then 0 else 1)<30))=U6:=by rfl)
  (hline:(apos.endLine==cpos.line)=U6:=by rfl) (hs:starEach [e] X.env=[(U7,eval e X.env)]:=by rfl):PD X (.Call (.Attribute o "index" apos) [e] [] cpos) (g_ Np ga gb) :=
 (xc F.plainAttrs_list F.slot_list_index F.type_list_index LM ha (gW hb hZ hs) hbase hfew hline hs).of λ σ H Q hz=>by
  obtain⟨δ,d,S,e1,q⟩:=hz;obtain⟨x,y,f1,f2,f3⟩:=xw e1;obtain⟨es,g1,g2⟩:=gU f3;obtain⟨bs,g3,g4⟩:=gU g2;obtain rfl:=kP g1;obtain rfl:=tQ g3;match y,g4,f2 with
  | .bl U6,g4,f2 =>
   by_cases hl:bs.length<=1000
   rotate_left
   ·cases (au hl).symm.trans (show(if bs.length<=1000 then _ else _)=_ from g4)
   obtain⟨j,g5,rfl⟩:=iA ((ai hl).symm.trans (show(if bs.length<=1000 then (bs.findIdx? id).map λ(j:Nat)=>Dt.int j else U5)=_ from g4));refine⟨δ,_,S,f1,λ v H1 s1 i1=>?_⟩;obtain⟨a,xs,rfl,hq,is⟩:=id i1.lst_inv;refine⟨.inl ⟨rfl,xs,SqL.of hq⟩,δ,_,S.ext s1,f2,λ v2 H2 s2 i2=>?_⟩;exact⟨bs,j,by rw[i2.jY],i1.ext s2,hl,g5,q _ H2 (s1.trans s2) (.int _)⟩
end
end L2
namespace L2
open PySem PySem.Spec PyProof.Rows Zp Qs
structure CkT (K:gK)(mg:gG)(n:Str)(C:Addr)(b:Bool) where
 D:Addr
 m:mg n=My (.ref D)
 k:PySem.W.kitOne K (.ref C) (.ref D)=My b
section
variable {X:Cx}{e:Expr}{pos p p2:Pos}
def LN (C:Addr)(b:Bool):TE:=λ σ H Q=>(∃ a,σ[0]?=My (My (.ref a))/\H a=My (.ext (isC a (.ref C))))/\Q (.bl b) H
theorem Jh {y:Str}{v:V}{c:gL}{C:Addr}{b:Bool}(z:X.mg "isinstance"=U5)(T:ExT X.K C)(h0:PE X (.Name y p2) (iG 0))(he:PE X e (tC v))(rv:RelV v c)(k:PySem.W.kitOne X.K (.ref C) c=My b)(hg:Gl X "isinstance":=by rfl)
  (hs1:starEach [.Name y p2,e] X.env=(U7,eval (.Name y p2) X.env)::starEach [e] X.env:=by rfl) (hs2:starEach [e] X.env=[(U7,eval e X.env)]:=by rfl) (hpl:(backTo pos (starEach [e] X.env)).any (·.1)=U7:=by rfl):PE X (.Call (.Name "isinstance" p) [.Name y p2,e] [] pos) (LN C b) :=
 (kD (Rp (c:=c) (b:=b)) hg z boot_isinstance (gW h0 (gW he hZ hs2) hs1) (he:=hs1) (hpl:=hpl)).of λ σ H Q h=>by obtain⟨⟨a,h1,h2⟩,q⟩:=h;exact⟨_,h1,a,C,v,rfl,rv,h2,T,k,q⟩
theorem lN {x y:Str}{C:Addr}{b:Bool}{p3:Pos}(z:X.mg "isinstance"=U5)(T:ExT X.K C)(J:CkT X.K X.mg x C b)(h0:PE X (.Name y p2) (iG 0))(hg:Gl X "isinstance":=by rfl)(hg2:Gl X x:=by rfl)(hd:(x==("__debug__":Str))=U7:=by decide)
  (hs1:starEach [.Name y p2,.Name x p3] X.env=(U7,eval (.Name y p2) X.env)::starEach [.Name x p3] X.env:=by rfl) (hs2:starEach [.Name x p3] X.env=[(U7,eval (.Name x p3) X.env)]:=by rfl) (hpl:(backTo pos (starEach [.Name x p3] X.env)).any (·.1)=U7:=by rfl):PE X (.Call (.Name "isinstance" p) [.Name y p2,.Name x p3] [] pos) (LN C b) :=
 Jh z T h0 (EI (v:=.ref J.D) hg2 J.m rfl hd) rfl J.k hg hs1 hs2 hpl
theorem vX:bootBuiltins "ValueError"=My (.type "ValueError"):=by decide +kernel
theorem Pg {y:Str}{C:Addr}{b:Bool}{p3:Pos}(z:X.mg "isinstance"=U5)(z2:X.mg "ValueError"=U5)(T:ExT X.K C)(k:PySem.W.kitOne X.K (.ref C) (.type "ValueError")=My b)(h0:PE X (.Name y p2) (iG 0))(hg:Gl X "isinstance":=by rfl)(hg2:Gl X "ValueError":=by rfl)
  (hs1:starEach [.Name y p2,.Name "ValueError" p3] X.env=(U7,eval (.Name y p2) X.env)::starEach [.Name "ValueError" p3] X.env:=by rfl) (hs2:starEach [.Name "ValueError" p3] X.env=[(U7,eval (.Name "ValueError" p3) X.env)]:=by rfl) (hpl:(backTo pos (starEach [.Name "ValueError" p3] X.env)).any (·.1)=U7:=by rfl):PE X (.Call (.Name "isinstance" p) [.Name y p2,.Name "ValueError" p3] [] pos) (LN C b) :=
 Jh z T h0 (EJ (v:=.ty "ValueError") hg2 z2 vX rfl) rfl k hg hs1 hs2 hpl
end
def tIs (C:Addr):List Bool->TA
 | []=>i8
 | b::bs=>g0 (LN C b) (tIs C bs)
theorem Ji {C:Addr}{σ:St}{H:Hp}{a:Addr}(h0:σ[0]?=My (My (.ref a)))(h1:H a=My (.ext (isC a (.ref C)))):∀ (bs:List Bool) (Q:List V->Hp->Prop),Q (bs.map V.bl) H->tIs C bs σ H Q
 | [],_,q=>q
 | b::bs,Q,q=>⟨⟨a,h0,h1⟩,Ji h0 h1 bs _ q⟩
theorem CN {K:gK}{H:Hp}:∀ (bs:List Bool),Iss K H (bs.map V.bl) (bs.map Dt.bl)
 | []=>.nil
 | b::bs=>.cons (.bl b) (CN bs)
open PySem.SeqAt
section
variable {X:Cx}{a b e:Expr}{pos:Pos}
def Eg (x y:Dt):gJ Dt:=(tR x).bind λ a=>(tR y).bind λ b=>(Fq a).bind λ ns=>(Fq b).bind λ ms=>if ns.length=ms.length then My (.bl (!decide (ns=ms))) else U5
theorem GF:∀ (ns ms:List Str),vS (ns.map .str) (ms.map .str)=U6:=by
 intro ns;induction ns with
 | nil=>intro ms;rfl
 | cons n r ih =>
  intro ms;cases ms with
  | nil=>rfl
  | cons m t=>rw[aI,aI,vS,ih t];rfl
theorem GG:∀ (ns ms:List Str),ng (ns.map .str) (ms.map .str)=decide (ns=ms):=by
 intro ns;induction ns with
 | nil=>intro ms;cases ms<;>simp[ng]
 | cons n r ih =>
  intro ms;cases ms with
  | nil=>simp[ng]
  | cons m t =>rw[aI,aI,ng,ih t,AS,bJ];simp
theorem Jj (hu:X.A.units+2<cLine):OpR X (compareOp .NotEq) (rD X.K Eg):=by
 intro pins s σ H x y v u Q I rx ry hz;obtain⟨d,d',r,i,i',e,q⟩:=hz;obtain⟨a,e1,f1⟩:=gU e;obtain⟨b,e2,f2⟩:=gU f1;obtain⟨ns,e3,f3⟩:=gU f2;obtain⟨ms,e4,f4⟩:=gU f3;obtain rfl:=kP e1;obtain rfl:=kP e2;obtain rfl:=zN e3;obtain rfl:=zN e4;clear e f1 f2 f3 e1 e2 e3 e4;by_cases hl:ns.length=ms.length
 ·rw[ai hl]at f4
  cases f4;obtain⟨p,xs,rfl,hp,is⟩:=i.lst_inv;obtain⟨p',ys,rfl,hq,js⟩:=i'.lst_inv;cases rx;cases ry;obtain⟨its,rv,t1,_⟩:=I.list (SqL.of hp);obtain⟨its',rv',t2,_⟩:=I.list (SqL.of hq);have l1:its.length=ns.length:=by rw[<-rv.length,is.length,ah]
  have l2:its'.length=ms.length:=by rw[<-rv'.length,js.length,ah]
  have hsz:its.toArray.size=its'.toArray.size:=by rw[ar,ar,l1,l2,hl]
  have:=RcNeAt.lists (A:=X.A) (s:=s) (l:=p) (b:=p') (items:=its.toArray) (items2:=its'.toArray) (e:=eAt (ns.map .str) (ms.map .str)) t1.isList t2.isList hsz (by lia) (rF is js rv rv' λ h1 h2 i1 i2 r1 r2=>Fe (tL (GF ns ms) h1 h2) i1 i2 r1 r2);have ea:=oW is js rv rv';rw[hsz,Nat.min_self,beq_self_eq_true,eg,GG]at ea;rw[hsz,ea]at this;exact this X.prog X.w X.xe _ ⟨.bl _,H,I,rfl,q _ H (g6.refl H) (.bl _)⟩
 ·rw[au hl]at f4;cases f4
theorem xZ {K:gK}{H:Hp}:∀ {vs:List V} {ds:List Dt},Iss K H vs ds->∀ k,Iss K H (vs.take k) (ds.take k)
 | _,_,_,0=>.nil
 | _,_,.nil,_+1=>.nil
 | _,_,.cons i is,k+1=>.cons i (xZ is k)
theorem GH (xs:List V)(k:Nat):vP xs U5 (My (k:Int))=xs.take k:=by unfold vP;rw[HT.w_,HT.og];simp
end
end L2
namespace L2
open PySem PySem.Spec PyProof.Rows Zp
section
variable {prog:Program}{w:World}{A:Around}{E:gH}{s:gM}
theorem Eh {n:Nat}(h:0<n):Builtin.Slice.sliceAdjust U5 U5 (-1) (n:Int)=((n:Int)-1,-1):=by unfold Builtin.Slice.sliceAdjust;simp
theorem Ei {n:Nat}(h:0<n):Builtin.Slice.slicePlaces ((n:Int)-1) (-1) (-1)=n:=by unfold Builtin.Slice.slicePlaces;simp;split<;>lia
theorem u7 {sl:Addr}{vk:gL}{n:Nat}{Q:Int×Int×Nat->gM->Prop}(hn:0<n)(hs:s.heap.IsSliceOf sl .none .none vk)(pk:IsPart vk (My (-1)))
  (h:Q ((n:Int)-1,-1,n) s):wpAny (model prog w) A (Builtin.Slice.sliceApplied (.ref sl) (pure (n:Int))) Q E s:=by
 obtain⟨os,hos,hcs,hds⟩:=id hs;unfold Builtin.Slice.sliceApplied Builtin.Slice.sliceFields;refine ae (ae (bV hos hds (x:=.none) rfl (ae (bV hos hds (x:=.none) rfl (ae (bV hos hds (x:=vk) rfl (af ?_)))))));refine ae (HT.nJ pk ?_);show wpAny _ _ (if ((-1:Int)==0)=U6 then _ else _) _ _ s;rw[au (by decide)];refine ae (HT.nJ .none (ae (HT.nJ .none (ae (af ?_)))));show wpAny _ _ (match Builtin.Slice.sliceAdjust U5 U5 (-1) (n:Int) with | (lo,hi)=>pure (lo,(-1:Int),Builtin.Slice.slicePlaces lo hi (-1))) _ _ s;rw[Eh hn];show wpAny _ _ (pure ((n:Int)-1,(-1:Int),Builtin.Slice.slicePlaces ((n:Int)-1) (-1) (-1))) _ _ s;rw[Ei hn];exact af h
theorem Jk {α:Type}(l:List α):(U8 l.length).filterMap (λ m=>l[m]?)=l:=by
 refine List.ext_getElem? λ i=>?_;have:(U8 l.length).filterMap (λ m=>l[m]?)=(U8 l.length).filterMap (λ m=>l[m]?):=rfl;induction l generalizing i with
 | nil=>rfl
 | cons x r ih =>
  rw[bf,List.range_succ_eq_map,bK];show(x::((U8 r.length).map Nat.succ).filterMap λ m=>(x::r)[m]?)[i]?=_;rw[List.filterMap_map];cases i with
  | zero=>rfl
  | succ i =>rw[aS,aS,<-ih i rfl];rfl
theorem Jl {α β:Type}{f g:α->gJ β}:∀ {l:List α},(∀ x∈l,f x=g x)->l.filterMap f=l.filterMap g:=by
 intro l;induction l with
 | nil=>intro _;rfl
 | cons x r ih =>intro h;rw[bK,bK,h x aB,ih λ y hy=>h y (ay _ hy)]
theorem Jm (xs:Array gL):((U8 xs.size).filterMap λ(m:Nat)=>xs[(((xs.size:Int)-1)+(m:Int)*(-1)).toNat]?).toArray=xs.toList.reverse.toArray:=by
 congr 1;have e:(U8 xs.size).filterMap (λ(m:Nat)=>xs[(((xs.size:Int)-1)+(m:Int)*(-1)).toNat]?)=(U8 xs.size).filterMap (λ m=>xs.toList.reverse[m]?):=by
  refine Jl λ m hm=>?_;have hm:=aC.mp hm;have:(((xs.size:Int)-1)+(m:Int)*(-1)).toNat=xs.size-1-m:=by lia
  rw[this,List.getElem?_reverse (by rw[bA];exact hm),bA,bh]
 rw[e];have h:=Jk xs.toList.reverse;rw[eK,bA]at h;exact h
theorem ue {t sl:Addr}{items:Array gL}{vk:gL}{Q:gH}(ht:IsTup s.heap t items)(hs:s.heap.IsSliceOf sl .none .none vk)(pk:IsPart vk (My (-1)))(hn:0<items.size)
  (h:Q (.ref s.heap.objs.size) {s with heap:=s.heap.push {cls:=.type "tuple",data:=.seq items.toList.reverse.toArray}}) (hsz:items.size<=sizeLine):wpAny (model prog w) A (getItem (.ref t) (.ref sl)) Q E s:=by
 have htake:sizeOk (.seq items.toList.reverse.toArray):=by show items.toList.reverse.toArray.size<=sizeLine;rw[ar,eK,bA];lia
 obtain⟨os,hos,hcs,hds⟩:=id hs;have hTs:s.TypeIs (.ref sl) "slice":=⟨os,hos,hcs⟩;unfold getItem;try with_reducible refine bQ ?_
 first | refine ae (af ?_) | skip
 refine ae (fW ht.typeIs (by decide) ?_);refine ae (bP (name:=Str.ofString "__getitem__") ht.typeIs aY
  (bY aY ht.typeIs entry_tuple_getitem ?_ (args_tuple_getitem _ _)))
 show wpAny _ _ (Builtin.Tuple.tupleItemsOf (.ref t)>>=_) _ _ s;refine ae (tupleItemsOf_ ht ?_);refine ae (fe hTs ?_);rw[ai (by decide)];refine ae (u7 hn hs pk ?_);show wpAny _ _ (if ((((items.size:Int)-1)==0&&(-1:Int)==1&&items.size==items.size))=U6 then _ else _) _ _ s;rw[au (by simp),Jm];first
  | exact ae (m:=Builtin.Tuple.tupleExact _) (bw (af ⟨_,rfl,af h⟩) htake)
  | exact ae (m:=Builtin.Tuple.tupleExact _) (bw (ae (af (af ⟨_,rfl,af h⟩))) htake)
  | exact ae (ae (m:=Builtin.Tuple.tupleExact _) (bw (af (af ⟨_,rfl,af h⟩)) htake))
  | exact ae (ae (m:=Builtin.Tuple.tupleExact _) (bw (af ⟨_,rfl,af h⟩) htake))
end
section
variable {X:Cx}{e k:Expr}{te tk:TE}{pos p2:Pos}
theorem Vals.rev {xs:List V}{us:List gL}(h:Vals xs us):Vals xs.reverse us.reverse:=by
 induction h with
 | nil=>exact .nil
 | cons h t ih =>rw[fu,fu];exact fY ih h
theorem Ph (he:PE X e te)(hk:PE X k tk):PE X (.Subscript e (.Slice U5 U5 (My k) p2) pos) (λ σ H Q=>te σ H λ x H1=>tk σ H1 λ y H2=>y=.int (-1)/\∃ a xs,x=.ref a/\SqT X.K H2 a xs/\xs≠[]/\∀ p,H2 p=U5->Q (.ref p) (upd H2 p (.tup xs.reverse))):=by
 intro pins s σ H Q I h;refine Subscript_ (thn (he pins s σ H _ I h) λ v s1 hz=>?_);obtain⟨x,H1,I1,r1,q1⟩:=hz;refine wpAny_Slice ?_;rw[evalPart_none];refine af ?_;refine af ?_;rw[evalPart_some];refine thn (hk pins s1 σ H1 _ I1 q1) λ vk s2 hz=>?_;obtain⟨y,H2,I2,r2,rfl,a,xs,rfl,hx,hne,q⟩:=hz;obtain⟨tt,rfl⟩:=r2;cases r1;have I4:Inv X pins σ H2 {s2 with heap:=s2.heap.push {cls:=.type "slice",data:=.fields #[.none,.none,.int (-1) tt]}}:=I2.kept (t':=s2.toks) λ b ob q=>ag _ q;obtain⟨its,r,ht,hz⟩:=I4.tuple hx;have hlen:its.toArray.size=xs.length:=by rw[ar];exact r.length.symm
 have hpos:0<its.toArray.size:=by rw[hlen];exact dU.mpr hne
 show wpAny (model X.prog X.w) X.A (subscriptTail e (.Slice U5 U5 (My k) p2) (.ref a) (.ref s2.heap.objs.size)) (EP X pins σ Q) X.xe {s2 with heap:=s2.heap.push {cls:=.type "slice",data:=.fields #[.none,.none,.int (-1) tt]}};refine tail_any (ops:=[.ref a,.ref s2.heap.objs.size]) ht.typeIs aY.lookup ?_ (by with_unfolding_all rfl);refine ue ht (Heap.IsSliceOf.new ..) (.int _ _) hpos ?_ (by rw[hlen];exact hz);refine⟨.ref _,_,I4.laid (t':=s2.toks) (o:=.tup xs.reverse) (λ b ob q=>ag _ q) (aw _) ?_,rfl,q _ (I4.hok.fresh (aw _))⟩;exact⟨⟨by rw[eK];exact hz,_,aF _ rfl,rfl⟩,_,r.rev,IsTup.new _ _⟩
def Jn (d:Dt):gJ Dt:=(Ck d).bind λ ds=>if ds≠[] then My (.tup ds.reverse) else U5
theorem Iss.rev {K:gK}{H:Hp}{vs:List V}{ds:List Dt}(h:Iss K H vs ds):Iss K H vs.reverse ds.reverse:=by
 induction ds generalizing vs with
 | nil=>cases h;exact .nil
 | cons d r ih =>
  cases h with
  | cons h1 h2 =>rw[fu,fu];exact(ih h2).append (.cons h1 .nil)
theorem Nq {ga:DE->gJ Dt}{j:Nat}{p3 p4:Pos}(ha:PD X e ga):PD X (.Subscript e (.Slice U5 U5 (My (.UnaryOp .USub (.Constant (.int 1) j p3) p4)) p2) pos) (gUn Jn ga) :=
 (Ph ha (EK Am ic)).of λ σ H Q hz=>by
  obtain⟨δ,d,S,eq,q⟩:=hz;obtain⟨x,e1,f1⟩:=gU eq;obtain⟨ds,e2,f2⟩:=gU f1;obtain rfl:=nN e2;by_cases hn:ds≠[]
  ·rw[ai hn]at f2;cases f2;refine⟨δ,_,S,e1,λ v H1 s1 i1=>?_⟩;obtain⟨a,xs,rfl,hx,js⟩:=i1.iI;exact⟨1,rfl,rfl,a,xs,rfl,hx,js.ne hn,λ p hp=>q _ _ (s1.trans (g6.upd hp)) (.tup (SqT.of gZ) (js.rev.ext (g6.upd hp)))⟩
  ·rw[au hn]at f2;cases f2
end
open PySem.SeqAt
section
variable {X:Cx}{pins:gO}{σ:St}{H:Hp}{s:gM}
theorem GI:∀ (ns ms:List Int),vS (ns.map .int) (ms.map .int)=U6:=by
 intro ns;induction ns with
 | nil=>intro ms;rfl
 | cons n r ih =>
  intro ms;cases ms with
  | nil=>rfl
  | cons m t=>rw[aI,aI,vS,ih t];rfl
theorem GJ:∀ (ns ms:List Int),ng (ns.map .int) (ms.map .int)=decide (ns=ms):=by
 intro ns;induction ns with
 | nil=>intro ms;cases ms<;>simp[ng]
 | cons n r ih =>
  intro ms;cases ms with
  | nil=>simp[ng]
  | cons m t =>rw[aI,aI,ng,ih t,AR,bJ];simp
end
end L2
namespace L2
open PySem PySem.Spec PyProof.Rows Zp
section
variable {K:gK}{h:Heap}{mg:gG}{n:Str}(X:K.In h)(G:h.Ns mainGlobals mg)
abbrev clT {dn:List gL}{C:Addr}(a:PySem.W.nsIn K mainGlobals n=My (My (.ref C)))(ex:PySem.W.excIn K C zb "ValueError.__new__"=U6)(mro:(PySem.W.clsIn K C).map (·.mro)=My (.ref C::(dn++zb))):ClT K mg n dn:=⟨C,a,ee X G a,ex,mro⟩
abbrev wtT {C:Addr}(a:PySem.W.nsIn K mainGlobals n=My (My (.ref C)))(ex:PySem.W.excIn K C zb "ValueError.__new__"=U6)(mro:(PySem.W.clsIn K C).map (·.mro)=My (.ref C::zb))(w1:PySem.W.instIn K (.ref C) (.type "tuple")=My U7)
 (w2:PySem.W.subIn K (.ref C) (.type "BaseException")=My U6):WT K mg n:=⟨⟨C,a,ee X G a,ex,mro⟩,w1,w2⟩
end
abbrev XD:=Except Str Dt
inductive RX where
 | nx (δ:DE) | rt (d:Dt) | ex (c:Str)
section
variable (K:gK)(C:Str->Addr)(E:XK)
def Pj (Q:VK)(H:Hp):XD->Prop
 | .ok d=>∀ v H',g6 H H'->Is K H' v d->Q v H'
 | .error c=>∀ e H',g6 H H'->H' e=U5->E (.ref (C c)) (My e) H'
def T7 (D:Ends)(H:Hp):RX->Prop
 | .nx δ=>∀ σ,Sat K H σ δ->D.nx σ H
 | .rt d=>∀ v,Is K H v d->D.rt v H
 | .ex c=>∀ e,H e=U5->E (.ref (C c)) (My e) H
def tX (g:DE->gJ XD):TE:=λ σ H Q=>∃ δ r,Sat K H σ δ/\g δ=My r/\Pj K C E Q H r
def tXS (g:DE->gJ RX):TS:=λ D σ H=>∃ δ r,Sat K H σ δ/\g δ=My r/\∀ H',g6 H H'->T7 K C E D H' r
def spX (n:Nat)(f:List Dt->gJ XD):Sp:=λ vs H Q E=>∃ ds r,ds.length=n/\Iss K H vs ds/\f ds=My r/\Pj K C E Q H r
end
section
variable (X:Cx)(C:Str->Addr)(E:XK)
abbrev PX (e:Expr)(g:DE->gJ XD):Prop:=PE X e (tX X.K C E g)
abbrev PXS (st:Stmt)(g:DE->gJ RX):Prop:=PS X st (tXS X.K C E g)
abbrev Ej (st:List Stmt)(g:DE->gJ RX):Prop:=PSs X st (tXS X.K C E g)
end
def qo (n:Nat)(f:List Dt->gJ XD)(gs:DE->gJ (List Dt)):DE->gJ XD:=λ δ=>(gs δ).bind λ ds=>if ds.length=n then f ds else U5
def xTr (g:DE->gJ XD):DE->gJ (Except Str Bool):=λ δ=>(g δ).bind λ r=>match r with
 | .ok d=>(DU d).map .ok
 | .error c=>My (.error c)
def xIf (gc:DE->gJ Bool)(g g':DE->gJ XD):DE->gJ XD:=λ δ=>(gc δ).bind λ k=>if k=U6 then g δ else g' δ
def upX:RD->RX
 | .nx δ=>.nx δ
 | .rt d=>.rt d
def xUp (g:DE->gJ RD):DE->gJ RX:=λ δ=>(g δ).map upX
def Ba (g g':DE->gJ RX):DE->gJ RX:=λ δ=>(g δ).bind λ r=>match r with
 | .nx δ'=>g' δ'
 | .rt d=>My (.rt d)
 | .ex c=>My (.ex c)
def uf (g:DE->gJ XD):DE->gJ RX:=λ δ=>(g δ).map λ r=>match r with
 | .ok _=>.nx δ
 | .error c=>.ex c
def Pk (g:DE->gJ XD):DE->gJ RX:=λ δ=>(g δ).map λ r=>match r with
 | .ok d=>.rt d
 | .error c=>.ex c
def Jo (gc:DE->gJ Bool)(g g':DE->gJ RX):DE->gJ RX:=λ δ=>(gc δ).bind λ k=>if k=U6 then g δ else g' δ
section
variable {X:Cx}{C:Str->Addr}{E:XK}{e a b c:Expr}{es:List Expr}{pos p:Pos}{st:Stmt}{sts sa sb:List Stmt}
theorem mG {n:Nat}{f:List Dt->gJ XD}{gs:DE->gJ (List Dt)}(h:PE X e (jD (spX X.K C n f) [] E (tDs X.K gs))):PX X C E e (qo n f gs):=h.of λ σ H Q hz=>by
 obtain⟨δ,r,S,e,q⟩:=hz;obtain⟨ds,e1,e2⟩:=gU e;by_cases hl:ds.length=n
 ·rw[ai hl]at e2
  refine⟨δ,ds,S,e1,λ vs H1 s1 i1=>?_⟩;show spX X.K C n f (vs++[]) H1 Q E;rw[bB];refine⟨ds,r,hl,i1,e2,?_⟩;cases r with
  | ok d=>exact λ v H2 s2 i2=>q v H2 (s1.trans s2) i2
  | error c=>exact λ e H2 s2 he=>q e H2 (s1.trans s2) he
 ·rw[au hl]at e2;cases e2
theorem Rt {gc:DE->gJ Bool}{g g':DE->gJ XD}(hc:PDT X c gc)(ha:PX X C E a g)(hb:PX X C E b g'):PX X C E (.IfExp c a b pos) (xIf gc g g') :=
 (BL hc ha hb).of λ σ H Q hz=>by
  obtain⟨δ,r,S,e,q⟩:=hz;obtain⟨k,e1,e2⟩:=gU e;refine⟨δ,k,S,e1,λ H1 s1=>?_⟩;have q':Pj X.K C E Q H1 r:=by
   cases r with
   | ok d=>exact λ v H2 s2 i2=>q v H2 (s1.trans s2) i2
   | error c=>exact λ e H2 s2 he=>q e H2 (s1.trans s2) he
  cases k with
  | true=>dsimp only;rw[ai rfl]at e2 ⊢;exact⟨δ,r,S.ext s1,e2,q'⟩
  | false=>dsimp only;rw[au ax]at e2 ⊢;exact⟨δ,r,S.ext s1,e2,q'⟩
theorem x_ {g:DE->gJ RD}(h:Ce X sts g):Ej X C E sts (xUp g):=PSs.of h λ D σ H hz=>by
 obtain⟨δ,r,S,e,q⟩:=hz;obtain⟨d,e1,e⟩:=iA e;subst e;refine⟨δ,d,S,e1,λ H1 s1=>?_⟩;have:=q H1 s1;cases d with
 | nx δ'=>exact this
 | rt d=>exact this
theorem nQ {g g':DE->gJ RX}(h1:PXS X C E st g)(h2:Ej X C E sts g'):Ej X C E (st::sts) (Ba g g'):=(g9 h1 h2).of λ D σ H hz=>by
 obtain⟨δ,r,S,e,q⟩:=hz;obtain⟨r1,e1,e⟩:=gU e;refine⟨δ,r1,S,e1,λ H1 s1=>?_⟩;cases r1 with
 | nx δ'=>exact λ σ' S'=>⟨δ',r,S',e,λ H2 s2=>q H2 (s1.trans s2)⟩
 | rt d=>cases e;exact q H1 s1
 | ex c=>cases e;exact q H1 s1
theorem pO {g:DE->gJ RX}(h1:PXS X C E st g):Ej X C E [st] g:=ji h1
theorem pP {g:DE->gJ XD}(he:PX X C E e g)(hs:swapsWith e U5 pos.line X.env=pure U7:=by rfl):PXS X C E (.Expr e pos) (uf g):=(sZ he hs).of λ D σ H hz=>by
 obtain⟨δ,r,S,e,q⟩:=hz;obtain⟨d,e1,e⟩:=iA e;subst e;refine⟨δ,d,S,e1,?_⟩;cases d with
 | ok d=>exact λ v H1 s1 i1=>q H1 s1 σ (S.ext s1)
 | error c=>exact λ e H1 s1 he=>q H1 s1 e he
theorem Pl {g:DE->gJ XD}(he:PX X C E e g):PXS X C E (.Return (My e) pos) (Pk g):=(lW he).of λ D σ H hz=>by
 obtain⟨δ,r,S,e,q⟩:=hz;obtain⟨d,e1,e⟩:=iA e;subst e;refine⟨δ,d,S,e1,?_⟩;cases d with
 | ok d=>exact λ v H1 s1 i1=>q H1 s1 v i1
 | error c=>exact λ e H1 s1 he=>q H1 s1 e he
theorem Ek {gc:DE->gJ Bool}{g g':DE->gJ RX}(hc:PDT X c gc)(ha:Ej X C E sa g)(hb:Ej X C E sb g'):PXS X C E (.If c sa sb pos) (Jo gc g g'):=(wR hc ha hb).of λ D σ H hz=>by
 obtain⟨δ,r,S,e,q⟩:=hz;obtain⟨k,e1,e⟩:=gU e;refine⟨δ,k,S,e1,λ H1 s1=>?_⟩;cases k with
 | true=>rw[ai rfl]at e ⊢;exact⟨δ,r,S.ext s1,e,λ H2 s2=>q H2 (s1.trans s2)⟩
 | false=>rw[au ax]at e ⊢;exact⟨δ,r,S.ext s1,e,λ H2 s2=>q H2 (s1.trans s2)⟩
end
section
variable {P:Program}{w:World}{K:gK}{mg:gG}{base:Heap}{N:List Str}{qual:Str}{scope:Scope}{f:Addr}{cd:gL}{A:Around}{outer:List Env}{s:gM}{H:Hp}{E:XK}{x:Str}{np cpos pos:Pos}{e0:Expr}{dn:List gL}{C:Str->Addr}
theorem ya {g:DE->gJ Dt}(c:ClT K mg x dn)(hC:C x=c.C)(hd:(cxE P w K mg base N qual scope f cd A outer s H E).A.handled=U5)(ha:PD (cxE P w K mg base N qual scope f cd A outer s H E) e0 g)(hg:Gl (cxE P w K mg base N qual scope f cd A outer s H E) x:=by rfl)(hdb:(x==("__debug__":Str))=U7:=by decide)
  (he:starEach [e0] (cxE P w K mg base N qual scope f cd A outer s H E).env=[(U7,eval e0 (cxE P w K mg base N qual scope f cd A outer s H E).env)]:=by rfl) :
  PXS (cxE P w K mg base N qual scope f cd A outer s H E) C E (.Raise (My (.Call (.Name x np) [e0] [] cpos)) U5 pos) (λ δ=>(g δ).map λ _=>.ex x):=(Jb c hd (gW ha hZ he) hg hdb he).of λ D σ H0 hz=>by
 obtain⟨δ,r,S,e,q⟩:=hz;obtain⟨d,e1,e⟩:=iA e;subst e;refine⟨δ,d,S,e1,λ v H1 s1 i1=>⟨by show 1<=sizeLine;decide,λ e he=>?_⟩⟩;rw[<-hC];exact q H1 s1 e he
end
def T8:RX->XD
 | .nx _=>.ok .non
 | .rt d=>.ok d
 | .ex c=>.error c
def HgX (n:Nat)(N:List Str)(f:List Dt->gJ XD)(g:DE->gJ RX):Prop:=∀ ds r,ds.length=n->f ds=My r->∃ x,g (nM N ds)=My x/\T8 x=r
abbrev OkX {K:gK}{mg:gG}{n:Str}{s:Stmt}{ps:List Str}(P:Program)(w:World)(base:Heap)(t:FnT K mg n s ps)(k:Nat)(sp:Sp):Prop:=pg P w K mg base (CXE P w) k t.f t.fd ps sp
theorem FnT.okX {P:Program}{w:World}{base:Heap}{K:gK}{mg:gG}{n:Str}{st:Stmt}{ps N:List Str}{k:Nat}{C:Str->Addr}{fX:List Dt->gJ XD}{g:DE->gJ RX}(t:FnT K mg n st ps)(S:il N ps (gY st))
  (hbody:∀ (cdv:gL) (A:Around) (outer:List Env) (s:gM) (H:Hp) (E:XK),jI k (A.deeper (envOfC n (gY st) s.heap.objs.size t.f cdv)) ->
   Ej (cxE P w K mg base N n (gY st) t.f cdv A outer s H E) C E (iU st) g)
  (hg:HgX ps.length N fX g):OkX P w base t (k+1) (spX K C ps.length fX):=by
 refine t.F.okE S (λ vs H Q E h=>?_) (λ cdv A outer s H vs Q E hr h=>?_)
 ·obtain⟨ds,r,hl,is,_⟩:=h;rw[is.length,hl]
 ·obtain⟨ds,r,hl,is,e,q⟩:=h
  obtain⟨x,e1,e2⟩:=hg ds r hl e;refine⟨_,hbody cdv A outer s H E hr,nM N ds,x,is.start,e1,λ H' s'=>?_⟩;cases x with
  | nx δ=>subst e2;exact λ σ _=>q _ H' s' .non
  | rt d'=>subst e2;exact λ v iv=>q v H' s' iv
  | ex c=>subst e2;exact λ e he=>q e H' s' he
structure CiT (K:gK)(W C:Addr):Prop where
 ex:PySem.W.excIn K C zb "ValueError.__new__"=U6
 mro:(PySem.W.clsIn K C).map (·.mro)=My (.ref C::([.ref W]++zb))
 ext:ExT K C
section
variable {K:gK}{mg:gG}{W C D:Addr}
set_option tactic.hygienic true in
theorem LO {l:List gL}{nm:String}(h:PySem.W.excIn K C l nm=U6):(PySem.W.clsIn K C).isSome=U6/\PySem.W.typeIn K (.ref C)=My (.type "type"):=by
 unfold PySem.W.excIn at h;split at h
 ·rename_i hl
  constructor
  ·unfold PySem.W.clsIn;rw[hl];rfl
  ·show Option.map (λ x=>x.cls) (List.lookup C K)=_;rw[hl];rfl
 ·cases h
theorem CiT.has (c:CiT K W C)(v:gL):PySem.W.mroIn K C v=My ((.ref C::([.ref W]++zb)).contains v):=by unfold PySem.W.mroIn;obtain⟨cd,h1,h2⟩:=iA c.mro;rw[h1,ak,h2];rfl
theorem CiT.sub (c:CiT K W C):PySem.W.subIn K (.ref C) (.ref W)=My U6:=by show PySem.W.mroIn K C (.ref W)=_;rw[c.has];simp
theorem CiT.ve (c:CiT K W C):PySem.W.kitOne K (.ref C) (.type "ValueError")=My U6:=by unfold PySem.W.kitOne;rw[au (by simp)];show(if PySem.W.kitMeta "ValueError"=U6 then PySem.W.mroIn K C (.type "ValueError") else U5)=_;rw[ai (by decide +kernel),c.has];simp
theorem CiT.own (c:CiT K W C)(d:CiT K W D)(ne:D≠W):PySem.W.kitOne K (.ref C) (.ref D)=My (decide (C=D)):=by
 unfold PySem.W.kitOne;by_cases e:C=D
 ·subst e;rw[ai (by simp)];simp
 ·rw[au (by simpa using e)];obtain⟨t1,t2⟩:=LO d.ex;unfold PySem.W.kitCls;dsimp only;rw[t1,t2,ai (by rfl)];show PySem.W.mroIn K C (.ref D)=_;rw[c.has,decide_eq_false e];simp[aZ e,ne]
end
structure EcT (K:gK)(mg:gG)(x:Str)(W:Addr) where
 C:Addr
 n:PySem.W.nsIn K mainGlobals x=My (My (.ref C))
 m:mg x=My (.ref C)
 i:CiT K W C
def EcT.cl {K:gK}{mg:gG}{n:Str}{W:Addr}(c:EcT K mg n W):ClT K mg n [.ref W]:=⟨c.C,c.n,c.m,c.i.ex,c.i.mro⟩
abbrev ecT {K:gK}{h:Heap}{mg:gG}{n:Str}{W:Addr}(X:K.In h)(G:h.Ns mainGlobals mg){C:Addr}(a:PySem.W.nsIn K mainGlobals n=My (My (.ref C)))(i:CiT K W C):EcT K mg n W:=⟨C,a,ee X G a,i⟩
structure zd (K:gK)(mg:gG) where
 w:WT K mg "WalkError"
 ug:EcT K mg "NoWeb" w.C
 o6:EcT K mg "NoPlace" w.C
 uh:EcT K mg "NoTree" w.C
 wG:EcT K mg "NoTie" w.C
 ui:EcT K mg "NoText" w.C
 nR:EcT K mg "NoNumber" w.C
 pQ:EcT K mg "NoShares" w.C
 wH:EcT K mg "NoTwo" w.C
 pR:EcT K mg "NoStream" w.C
 rN:EcT K mg "NoPaper" w.C
 wI:EcT K mg "Apart" w.C
 rO:EcT K mg "TooMany" w.C
 uj:EcT K mg "NoCode" w.C
 uk:EcT K mg "NoDeed" w.C
 um:EcT K mg "NoLine" w.C
 nd:[w.C,ug.C,o6.C,uh.C,wG.C,ui.C,nR.C,pQ.C,wH.C,pR.C,rN.C,wI.C,rO.C,uj.C,uk.C,um.C].Nodup
def u9:List Str:=["NoWeb","NoPlace","NoTree","NoTie","NoText","NoNumber","NoShares","NoTwo","NoStream","NoPaper","Apart","TooMany","NoCode","NoDeed","NoLine"]
def GK:List Str:=["web","place","tree","tie","text","number","shares","two","stream","paper","apart","many","code","deed","line"]
def CO (c:Str):Str:=((u9.zip GK).lookup c).getD "other"
section
variable {K:gK}{mg:gG}(T:zd K mg)
omit T in
theorem El {l:List Addr}{i:Nat}(h:i<l.length):l.getD i 0=l[i]:=by rw[aq,aA h];rfl
def zd.ads:List Addr:=[T.ug.C,T.o6.C,T.uh.C,T.wG.C,T.ui.C,T.nR.C,T.pQ.C,T.wH.C,T.pR.C,T.rN.C,T.wI.C,T.rO.C,T.uj.C,T.uk.C,T.um.C]
def zd.ad (i:Nat):Addr:=T.ads.getD i 0
def zd.C (c:Str):Addr:=((u9.zip T.ads).lookup c).getD 0
theorem zd.ci:∀ i,i<15->CiT K T.w.C (T.ad i)
 | 0,_=>T.ug.i
 | 1,_=>T.o6.i
 | 2,_=>T.uh.i
 | 3,_=>T.wG.i
 | 4,_=>T.ui.i
 | 5,_=>T.nR.i
 | 6,_=>T.pQ.i
 | 7,_=>T.wH.i
 | 8,_=>T.pR.i
 | 9,_=>T.rN.i
 | 10,_=>T.wI.i
 | 11,_=>T.rO.i
 | 12,_=>T.uj.i
 | 13,_=>T.uk.i
 | 14,_=>T.um.i
 | n+15,h=>absurd h (by lia)
theorem zd.adW:∀ i,i<15->T.ad i≠T.w.C:=λ i hi e=>by
 have:=(bC.mp T.nd).1;have h:T.ads.getD i 0∈T.ads:=by rw[El (show i<T.ads.length from hi)];exact dZ _
 have h2:∀ x,x=T.w.C->x∈T.ads->False:=λ x e h=>by subst e;exact this h
 exact h2 _ e h
theorem zd.inj {i j:Nat}(hi:i<15)(hj:j<15):T.ad i=T.ad j↔i=j:=by
 have nd:T.ads.Nodup:=(bC.mp T.nd).2;refine⟨λ e=>?_,λ e=>by rw[e]⟩;have e:T.ads.getD i 0=T.ads.getD j 0:=e;rw[El (show i<T.ads.length from hi),El (show j<T.ads.length from hj)]at e;have pw:=b_.mp (aJ.mp nd);rcases fg i j with l | l | l
 ·exact absurd e (pw i j hi hj l)
 ·exact l
 ·exact absurd e.symm (pw j i hj hi l)
def zd.ck {n:Str}(k:Nat)(e:EcT K mg n T.w.C)(he:e.C=T.ad k)(hk:k<15){i:Nat}(hi:i<15):CkT K mg n (T.ad i) (decide (i=k)):=⟨e.C,e.m,by have:=(T.ci i hi).own e.i (by rw[he];exact T.adW k hk);rw[this,he];congr 1;rw[decide_eq_decide];exact T.inj hi hk⟩
theorem Jp:∀ {c:Str},c∈u9->∃ i,i<15/\u9[i]?=My c:=λ{c} h=>by obtain⟨i,hi,e⟩:=List.mem_iff_getElem.mp h;exact⟨i,hi,by rw[aA hi,e]⟩
theorem Jq:∀ i,i<15->∀ {c:Str},u9[i]?=My c->T.C c=T.ad i/\GK[i]?=My (CO c)
 | 0,_,_,e=>by cases e;exact⟨rfl,rfl⟩
 | 1,_,_,e=>by cases e;exact⟨rfl,rfl⟩
 | 2,_,_,e=>by cases e;exact⟨rfl,rfl⟩
 | 3,_,_,e=>by cases e;exact⟨rfl,rfl⟩
 | 4,_,_,e=>by cases e;exact⟨rfl,rfl⟩
 | 5,_,_,e=>by cases e;exact⟨rfl,rfl⟩
 | 6,_,_,e=>by cases e;exact⟨rfl,rfl⟩
 | 7,_,_,e=>by cases e;exact⟨rfl,rfl⟩
 | 8,_,_,e=>by cases e;exact⟨rfl,rfl⟩
 | 9,_,_,e=>by cases e;exact⟨rfl,rfl⟩
 | 10,_,_,e=>by cases e;exact⟨rfl,rfl⟩
 | 11,_,_,e=>by cases e;exact⟨rfl,rfl⟩
 | 12,_,_,e=>by cases e;exact⟨rfl,rfl⟩
 | 13,_,_,e=>by cases e;exact⟨rfl,rfl⟩
 | 14,_,_,e=>by cases e;exact⟨rfl,rfl⟩
 | n+15,h,_,_=>absurd h (by lia)
theorem Jr:∀ i,i<15->((U8 15).map λ k=>decide (i=k)).countP id=1/\((U8 15).map λ k=>decide (i=k)).findIdx? id=My i:=by decide
end
def mQ:Dt->gJ String
 | .non=>My "NoneType"
 | .bl _=>My "bool"
 | .int _=>My "int"
 | .str _=>My "str"
 | .tup _=>My "tuple"
 | .lst _=>My "list"
 | .dct _=>My "dict"
 | _=>U5
def m7:List String:=["int","bool","tuple","list","str"]
def Bb (k T:String):Bool:=k==T || (k=="bool"&&T=="int")
def T9 (x y:Dt):gJ Dt:=(mQ x).bind λ k=>(tyD y).bind λ T=>if T∈m7 then My (.bl (Bb k T)) else U5
def lC:List Dt->gJ Dt:=Gj T9
theorem LP (K:gK){T:String}(h:T∈m7):PySem.W.kitOne K (.type "int") (.type T)=My (Bb "int" T):=by simp only[m7,aD,bg,or_false]at h;rcases h with rfl | rfl | rfl | rfl | rfl<;>rfl
theorem Js (K:gK){T:String}(h:T∈m7):PySem.W.kitOne K (.type "bool") (.type T)=My (Bb "bool" T):=by simp only[m7,aD,bg,or_false]at h;rcases h with rfl | rfl | rfl | rfl | rfl<;>rfl
theorem Jt (K:gK){T:String}(h:T∈m7):PySem.W.kitOne K (.type "NoneType") (.type T)=My (Bb "NoneType" T):=by simp only[m7,aD,bg,or_false]at h;rcases h with rfl | rfl | rfl | rfl | rfl<;>rfl
theorem LQ (K:gK){T:String}(h:T∈m7):PySem.W.kitOne K (.type "str") (.type T)=My (Bb "str" T):=by simp only[m7,aD,bg,or_false]at h;rcases h with rfl | rfl | rfl | rfl | rfl<;>rfl
theorem LR (K:gK){T:String}(h:T∈m7):PySem.W.kitOne K (.type "tuple") (.type T)=My (Bb "tuple" T):=by simp only[m7,aD,bg,or_false]at h;rcases h with rfl | rfl | rfl | rfl | rfl<;>rfl
theorem LU (K:gK){T:String}(h:T∈m7):PySem.W.kitOne K (.type "list") (.type T)=My (Bb "list" T):=by simp only[m7,aD,bg,or_false]at h;rcases h with rfl | rfl | rfl | rfl | rfl<;>rfl
theorem LV (K:gK){T:String}(h:T∈m7):PySem.W.kitOne K (.type "dict") (.type T)=My (Bb "dict" T):=by simp only[m7,aD,bg,or_false]at h;rcases h with rfl | rfl | rfl | rfl | rfl<;>rfl
section
variable {X:Cx}
theorem oG:jy X (.builtin "isinstance") (cD X.K lC):=by
 intro pins s σ H xs us Q I rs hz;obtain⟨ds,d,is,e,q⟩:=hz;obtain⟨x,y,rfl,e⟩:=qP e;obtain⟨k,e1,e⟩:=gU e;obtain⟨T,e2,e⟩:=gU e;by_cases hT:T∈m7
 rotate_left
 ·rw[au hT]at e;cases e
 rw[ai hT]at e;cases e;obtain⟨v,v',rfl,i1,i2⟩:=is.two;rw[Lg e2]at i2;rw[i2.HV]at rs;obtain⟨u,u',rfl,r1,r2⟩:=vals2 rs;cases r2;have fin:∀ {t:gL} {Hh:Heap->Prop},PySem.W.KitX X.K u t Hh->Hh s.heap->PySem.W.kitOne X.K t (.type T)=My (Bb k T)->u≠Value.builtin "__main__.__loader__#opaque"->wpAny (model X.prog X.w) X.A (call (.builtin "isinstance") [u,.type T]) (λ u s'=>∃ v H',Inv X pins σ H' s'/\RelV v u/\Q v H') X.xe s:=λ kx hh hk hn =>PySem.W.kia_one kx I.kIn hh hk hn λ tk=>⟨.bl _,H,I.tok _,rfl,q _ H (g6.refl H) (.bl _)⟩
 match x,e1,i1 with
 | .non,e1,i1 =>cases e1;rw[i1.AJ]at r1;cases r1;exact fin PySem.W.kitx_none trivial (Jt _ hT) (λ z=>nomatch z)
 | .bl b,e1,i1 =>cases e1;rw[i1.jY]at r1;cases r1;exact fin PySem.W.kitx_bool trivial (Js _ hT) (λ z=>nomatch z)
 | .int b,e1,i1 =>cases e1;rw[i1.int_inv]at r1;obtain⟨t,rfl⟩:=r1;exact fin PySem.W.kitx_int trivial (LP _ hT) (λ z=>nomatch z)
 | .str b,e1,i1 =>cases e1;rw[i1.str_inv]at r1;obtain⟨t,rfl⟩:=r1;exact fin PySem.W.kitx_str trivial (LQ _ hT) (λ z=>nomatch z)
 | .tup b,e1,i1 =>cases e1;obtain⟨a,ys,rfl,ha,js⟩:=i1.iI;cases r1;obtain⟨its,_,⟨o,ho,hc,_⟩,_⟩:=I.tuple ha;exact fin PySem.W.kitx_tuple ⟨o,ho,hc⟩ (LR _ hT) (λ z=>nomatch z)
 | .lst b,e1,i1 =>cases e1;obtain⟨a,ys,rfl,ha,js⟩:=i1.lst_inv;cases r1;obtain⟨its,_,hh,_⟩:=I.list (SqL.of ha);obtain⟨o,ho,hc,_⟩:=hh.isList;exact fin PySem.W.kitx_list ⟨o,ho,hc⟩ (LU _ hT) (λ z=>nomatch z)
 | .dct b,e1,i1 =>cases e1;obtain⟨a,rfl,ha⟩:=i1.rC;cases r1;have ok:=ha.ok I.hok;obtain⟨_,_,_,_,o,_,_,ho,hc,_⟩:=ok;exact fin PySem.W.kitx_dict ⟨o,ho,hc.1⟩ (LV _ hT) (λ z=>nomatch z)
end
mutual
def toPy:Dt->PyData
 | .bl b=>.bool b
 | .int i=>.int i
 | .str x=>.str x
 | .tup ds=>.tuple (nS ds)
 | .lst ds=>.list (nS ds)
 | _=>.none
def nS:List Dt->List PyData
 | []=>[]
 | d::r=>toPy d::nS r
end
mutual
def plD:Dt->Bool
 | .ty _=>U7
 | .opq _=>U7
 | .dct _=>U7
 | .tup ds=>CP ds
 | .lst ds=>CP ds
 | _=>U6
def CP:List Dt->Bool
 | []=>U6
 | d::r=>plD d&&CP r
end
def Em (d:Dt):Bool:=plD d&&((toPy d).showable&&(decide ((toPy d).shown.length<=sizeLine)&&decide ((toPy d).depth<=40)))
def rpS (d:Dt):Str:=(toPy d).shown
def FE:List Dt->gJ Dt:=sG λ d=>if Em d=U6 then My (.str (rpS d)) else U5
mutual
theorem noDict:∀ d:Dt,(toPy d).hasDict=U7
 | .tup ds=>by rw[toPy,PyData.hasDict.eq_6];exact noDicts ds
 | .lst ds=>by rw[toPy,PyData.hasDict.eq_5];exact noDicts ds
 | .non=>rfl
 | .bl _=>rfl
 | .int _=>rfl
 | .str _=>rfl
 | .ty _=>rfl
 | .opq _=>rfl
 | .dct _=>rfl
theorem noDicts:∀ ds:List Dt,PyData.hasDictAll (nS ds)=U7
 | []=>rfl
 | d::r=>by rw[nS,PyData.hasDictAll,noDict d,noDicts r];rfl
end
section
variable {X:Cx}{pins:gO}{s:gM}{σ:St}{H:Hp}
mutual
theorem CQ (I:Inv X pins σ H s):∀ (d:Dt) {v:V} {u:gL},Is X.K H v d->plD d=U6->RelV v u->∃ as,Reads s.heap u (toPy d) as
 | .non,v,u,i,_,r=>by rw[i.AJ]at r;cases r;exact⟨_,.none⟩
 | .bl b,v,u,i,_,r=>by rw[i.jY]at r;cases r;exact⟨_,.bool b⟩
 | .int b,v,u,i,_,r=>by rw[i.int_inv]at r;obtain⟨t,rfl⟩:=r;exact⟨_,.int b t⟩
 | .str b,v,u,i,_,r=>by rw[i.str_inv]at r;obtain⟨t,rfl⟩:=r;exact⟨_,.str b t⟩
 | .tup ds,v,u,i,p,r=>by obtain⟨a,xs,rfl,ha,js⟩:=i.iI;cases r;obtain⟨its,rv,⟨o,ho,hc,n,hd⟩,_⟩:=I.tuple ha;obtain⟨as,ra⟩:=u_ I ds js (by rw[plD]at p;exact p) rv;exact⟨as,.tuple ho hc hd (by simpa using ra)⟩
 | .lst ds,v,u,i,p,r=>by obtain⟨a,xs,rfl,ha,js⟩:=i.lst_inv;cases r;obtain⟨its,rv,hh,_⟩:=I.list (SqL.of ha);obtain⟨o,ho,hc,n,hd⟩:=hh.isList;obtain⟨as,ra⟩:=u_ I ds js (by rw[plD]at p;exact p) rv;exact⟨_,.list ho hc hd (by simpa using ra)⟩
 | .ty _,_,_,_,p,_=>by rw[plD]at p;cases p
 | .opq _,_,_,_,p,_=>by rw[plD]at p;cases p
 | .dct _,_,_,_,p,_=>by rw[plD]at p;cases p
theorem u_ (I:Inv X pins σ H s):∀ (ds:List Dt) {xs:List V} {us:List gL},Iss X.K H xs ds->CP ds=U6->Vals xs us->∃ as,ReadsAll s.heap us (nS ds) as
 | [],xs,us,i,_,r=>by cases i;cases r;exact⟨_,.nil⟩
 | d::ds,xs,us,i,p,r=>by
  cases i with
  | cons i1 i2 =>
   cases r with
   | cons r1 r2 =>rw[CP,aP]at p;obtain⟨as,h1⟩:=CQ I d i1 p.1 r1;obtain⟨bs,h2⟩:=u_ I ds i2 p.2 r2;exact⟨_,.cons h1 h2⟩
end
theorem Ju (hg:X.A.guards=My [])(hu:X.A.units+64<cLine):jy X (.builtin "repr") (cD X.K FE):=by
 intro pins s σ H xs us Q I rs hz;obtain⟨ds,d,is,e,q⟩:=hz;obtain⟨x,rfl,e1⟩:=kr e;clear e;by_cases hp:Em x=U6
 rotate_left
 ·rw[au hp]at e1;cases e1
 rw[ai hp]at e1;cases e1;obtain⟨v,rfl,i1⟩:=is.one;obtain⟨u,rfl,r1⟩:=vals1 rs;unfold Em at hp;simp only[aP,decide_eq_true_eq]at hp;obtain⟨p1,p2,p3,p4⟩:=hp;obtain⟨as,ra⟩:=CQ I x i1 p1 r1;have nd:=noDict x;have fin:∀ (t:Tok) (h':Heap) (tk:Nat),(∀ b o,s.heap.get? b=My o->h'.get? b=My o)->∃ v H',Inv X pins σ H' {s with heap:=h',toks:=tk}/\RelV v (.str (toPy x).shown t)/\Q v H':=λ t h' tk hk =>⟨.str (rpS x),H,I.kept hk,⟨t,rfl⟩,q _ H (g6.refl H) (.str _)⟩
 generalize toPy x=py at *;have ref:∀ {a:Addr},u=.ref a->wpAny (model X.prog X.w) X.A (call (.builtin "repr") [u]) (EP X pins σ Q) X.xe s:=λ{a} e=>by subst e;exact repr_of_reads' ra p2 (λ z=>by rw[nd]at z;cases z) hg (by lia) (λ _ _ h=>h) (λ h' t tk hk=>fin t h' tk hk) p3
 cases ra with
 | none=>exact P.repr_of_none (fin _ _ _ λ _ _ h=>h)
 | bool b=>exact P.repr_of_bool (fin _ _ _ λ _ _ h=>h)
 | int i t=>exact P.repr_of_int (by simpa [PyData.showable] using p2) (fin _ _ _ λ _ _ h=>h)
 | str y t=>exact P.repr_of_str (fin _ _ _ λ _ _ h=>h) p3
 | list _ _ _ _=>exact ref rfl
 | tuple _ _ _ _=>exact ref rfl
 | dict _ _ _ _ _=>exact ref rfl
end
open Qs
def whB:Dt->Bool
 | .int _=>U6
 | _=>U7
def jV:List Dt->gJ Dt:=sG λ x=>(mQ x).map λ _=>.bl (whB x)
def nU (n:Int):Dt->Bool
 | .int i=>decide (0<=i/\i<n)
 | _=>U7
def lS:List Dt->gJ Dt:=Gj λ m x=>(tN m).bind λ n=>(mQ x).map λ _=>.bl (nU n x)
def jN (n:Int):Dt->Bool
 | .tup [.int a,.int b]=>decide (0<=a/\a<b/\b<n)
 | _=>U7
def kdB (d:Dt):Bool:=(mQ d).isSome
def kT:Dt->Bool
 | .tup ds=>ds.all kdB
 | d=>kdB d
def nH:List Dt->gJ Dt:=Gj λ m x=>(tN m).bind λ n=>if kT x=U6 then My (.bl (jN n x)) else U5
def iS:Dt->Nat×Nat
 | .tup [.int a,.int b]=>(a.toNat,b.toNat)
 | _=>(0,0)
def kM:Dt->Bool
 | .tup [.int n,.tup ts]=>decide (2<=n/\n<=8)&&(ts.all (jN n)&&(rise (ts.map iS)&&decide (((bfs (ts.map iS) 0).length:Int)=n)))
 | _=>U7
def okW:Dt->Bool
 | .tup [m,.tup ts]=>kdB m&&(decide (ts.length<=1000)&&ts.all kT)
 | .tup ds=>ds.all kdB
 | d=>kdB d
def rP:List Dt->gJ Dt:=sG λ x=>if okW x=U6 then My (.bl (kM x)) else U5
def qW:DE->gJ RD:=(kc (Cc (iM lC (gP (gT 0) (gP (gC (.ty "int")) gS))) (Oy (iM lC (gP (gT 0) (gP (gC (.ty "bool")) gS))))))
abbrev CS:List Str:=["thing"]
def mR:DE->gJ RD:=(kc (Cc (hG 1 jV (gP (gT 1) gS)) (qL (dIB λ i j=>decide (i<=j)) (dIB λ i j=>decide (i<j)) (gC (.int 0)) (gT 1) (gT 0))))
abbrev CT:List Str:=["many","thing"]
def lT:DE->gJ RD:=(jc (sF (tK (lP (gTr (iM lC (gP (gT 1) (gP (gC (.ty "tuple")) gS))))) (gB (g_ vT (iM pE (gP (gT 1) gS)) (gC (.int 2))))) (kc (gC (.bl U7))) mL) (jc (yV (nc 2 3) (gT 1)) (kc (Cc (hG 2 lS (gP (gT 0) (gP (gT 2) gS))) (Cc (hG 2 lS (gP (gT 0) (gP (gT 3) gS))) (g_ (dIB λ i j=>decide (i<j)) (gT 2) (gT 3)))))))
abbrev GL:List Str:=["many","thing","a","b"]
def jP:DE->gJ RD:=(jc (sF (tK (lP (gTr (iM lC (gP (gT 0) (gP (gC (.ty "tuple")) gS))))) (gB (g_ vT (iM pE (gP (gT 0) gS)) (gC (.int 2))))) (kc (gC (.bl U7))) mL) (jc (yV (nc 1 2) (gT 0)) (jc (sF (tK (lP (gTr (hG 1 jV (gP (gT 1) gS)))) (lP (gB (qL (dIB λ i j=>decide (i<=j)) (dIB λ i j=>decide (i<=j)) (gC (.int 2)) (gT 1) (gC (.int 8)))))) (kc (gC (.bl U7))) mL) (jc (sF (tK (lP (gTr (iM lC (gP (gT 2) (gP (gC (.ty "tuple")) gS))))) (lP (gTr (iM xD (gP (gLC ["tie"] [1] (gI jE (gT 2)) (ggN 0) jd (hG 2 nH (gP (gT 1) (gP (gT 0) gS)))) gS))))) (kc (gC (.bl U7))) mL) (kc (Cc (hG 1 ny (gP (gT 2) gS)) (g_ lx (iM Fi (gP (hG 2 oq (gP (gT 2) (gP (gC (.int 0)) gS))) gS)) (gT 1))))))))
abbrev GN:List Str:=["thing","many","ties"]
theorem uo:Hg 1 CS jV qW:=by
 intro ds d hl h;obtain⟨x,rfl,h⟩:=kr h;obtain⟨k,e,h⟩:=iA h;subst h;refine⟨.rt (.bl (whB x)),?_,rfl⟩;cases x<;>first | (cases e;done) | skip
 all_goals rfl
set_option tactic.hygienic true in
theorem Bc:Hg 2 CT lS mR:=by
 intro ds d hl h;obtain⟨m,x,rfl,h1⟩:=qP h;obtain⟨n,e0,h2⟩:=gU h1;obtain⟨k,e,h3⟩:=iA h2;subst h3;clear h h1 h2;rw[ly e0];refine⟨.rt (.bl (nU n x)),?_,rfl⟩;cases x<;>first | (cases e;done) | skip
 case int =>
  rename_i i;show mR [My (.int n),My (.int i)]=_;have w:jV [.int i]=My (.bl U6):=rfl;by_cases c:0<=i
  ·by_cases c2:i<n<;>simp[mR,w,nU,c,c2]
  ·simp[mR,w,nU,c]
 all_goals rfl
theorem qX {d:Dt}(h:kdB d=U6):∃ k,mQ d=My k:=cP.mp h
theorem Eo (n:Int){d:Dt}(h:kdB d=U6):lS [.int n,d]=My (.bl (nU n d)):=by obtain⟨k,e⟩:=qX h;show((mQ d).map λ _=>Dt.bl (nU n d))=_;rw[e];rfl
set_option tactic.hygienic true in
theorem Ep:Hg 2 GL nH lT:=by
 intro ds d hl h;obtain⟨m,x,rfl,h1⟩:=qP h;obtain⟨n,e0,h2⟩:=gU h1;clear h h1;by_cases hx:kT x=U6
 rotate_left
 ·rw[au hx]at h2;cases h2
 rw[ai hx]at h2;cases h2;rw[ly e0];refine⟨.rt (.bl (jN n x)),?_,rfl⟩;match x,hx with
 | .tup [a,b],hx =>
  have ka:kdB a=U6:=by simp[kT]at hx;exact hx.1
  have kb:kdB b=U6:=by simp[kT]at hx;exact hx.2
  have pa:=Eo n ka;have pb:=Eo n kb;have iT:lC [.tup [a,b],.ty "tuple"]=My (.bl U6):=rfl;have ln:pE [.tup [a,b]]=My (.int 2):=rfl;show lT [My (.int n),My (.tup [a,b]),U5,U5]=_;by_cases c1:nU n a=U6
  ·by_cases c2:nU n b=U6
   ·cases a<;>first | (cases c1;done) | skip
    cases b<;>first | (cases c2;done) | skip
    rename_i i j;rw[c1]at pa;rw[c2]at pb;simp only[nU,decide_eq_true_eq]at c1 c2;have e:decide (i<j)=decide (0<=i/\i<j/\j<n):=by rw[decide_eq_decide];lia
    simp[lT,iT,ln,pa,pb,jN];simpa using e
   ·have e:jN n (.tup [a,b])=U7:=by
     cases a<;>first | rfl | skip
     cases b<;>first | rfl | skip
     rename_i i j;simp only[nU,decide_eq_true_eq]at c1 c2;simp only[jN,decide_eq_false_iff_not];lia
    rw[c1]at pa;rw[bx]at c2;rw[c2]at pb;rw[e];simp[lT,iT,ln,pa,pb]
  ·have e:jN n (.tup [a,b])=U7:=by
    cases a<;>first | rfl | skip
    cases b<;>first | rfl | skip
    rename_i i j;simp only[nU,decide_eq_true_eq]at c1;simp only[jN,decide_eq_false_iff_not];lia
   rw[bx]at c1;rw[c1]at pa;rw[e];simp[lT,iT,ln,pa]
 | .tup [],_=>rfl
 | .tup [a],_=>cases a<;>rfl
 | .tup (a::b::c::r),hx =>
  have iT:lC [.tup (a::b::c::r),.ty "tuple"]=My (.bl U6):=rfl;have ln:pE [.tup (a::b::c::r)]=My (.int ((r.length:Int)+3)):=by show My (Dt.int (((a::b::c::r).length:Nat):Int))=_;simp;lia
  have ne:¬ ((r.length:Int)+3=2):=by lia
  have e:jN n (.tup (a::b::c::r))=U7:=by cases a<;>first | rfl | (cases b<;>rfl)
  rw[e];show lT [My (.int n),My (.tup (a::b::c::r)),U5,U5]=_;generalize (r.length:Int)+3=z,Dt.tup (a::b::c::r)=t at *;simp[lT,iT,ln,ne]
 | .non,_=>rfl
 | .bl _,_=>rfl
 | .int _,_=>rfl
 | .str _,_=>rfl
 | .lst _,_=>rfl
 | .dct _,_=>rfl
theorem Jv (n:Int){d:Dt}(h:kT d=U6):nH [.int n,d]=My (.bl (jN n d)):=by show(if kT d=U6 then My (Dt.bl (jN n d)) else U5)=_;rw[ai h]
set_option tactic.hygienic true in
theorem FF {n:Int}{d:Dt}(h:jN n d=U6):d=hJ (iS d)/\(iS d).1<(iS d).2/\((iS d).2:Int)<n:=by
 unfold jN at h;split at h
 ·rename_i a b
  simp only[decide_eq_true_eq]at h;obtain⟨h1,h2,h3⟩:=h;have e1:((a.toNat:Nat):Int)=a:=by lia
  have e2:((b.toNat:Nat):Int)=b:=by lia
  refine⟨?_,?_,?_⟩
  ·show Dt.tup [.int a,.int b]=.tup [.int ((a.toNat:Nat):Int),.int ((b.toNat:Nat):Int)];rw[e1,e2]
  ·show a.toNat<b.toNat;lia
  ·show((b.toNat:Nat):Int)<n;lia
 ·cases h
theorem yb {n:Int}{ts:List Dt}(h:ts.all (jN n)=U6):ts=(ts.map iS).map hJ/\∀ p∈ts.map iS,p.1<p.2/\(p.2:Int)<n:=by
 rw[bF]at h;refine⟨?_,λ p hp=>?_⟩
 ·rw[aU]
  conv=>lhs;rw[<-cY ts]
  exact bR λ d hd=>(FF (h d hd)).1
 ·obtain⟨d,hd,rfl⟩:=aE.mp hp;exact(FF (h d hd)).2
theorem CU {l:gN}{n:Nat}(hr:rise l=U6)(ok:∀ p∈l,p.1<p.2/\p.2<n)(h8:n<=8):l.length<=28:=by refine pairs_len (n:=n) ?_ ok h8;rw[aJ];refine(nv hr).imp λ{a b} h e=>?_;subst e;rw[lz]at h;lia
theorem T_ (l:gN)(h:l.length<=1000):ny [iK l]=My (.bl (rise l)):=by show(dTt (iK l)).bind (λ l=>if l.length<=1000 then My (Dt.bl (rise l)) else U5)=_;rw[wo,ak,ai h]
theorem Ua {l:gN}(h:l.length<=30)(k:Nat):oq [iK l,gR k]=My (.dct (lM (bfs l k))):=by show(dTs (iK l)).bind (λ l=>(jU (gR k)).bind λ p=>if l.length<=30 then My (Dt.dct (lM (bfs l p))) else U5)=_;rw[AY,jj,ak,ak,ai h]
theorem Er:Hg 1 GN rP jP:=by
 intro ds d hl h;obtain⟨x,rfl,h1⟩:=kr h;clear h;by_cases hx:okW x=U6
 rotate_left
 ·rw[au hx]at h1;cases h1
 rw[ai hx]at h1;cases h1;refine⟨.rt (.bl (kM x)),?_,rfl⟩;match x,hx with
 | .tup [m,t],hx =>
  show jP [My (.tup [m,t]),U5,U5]=_;have iT:lC [.tup [m,t],.ty "tuple"]=My (.bl U6):=rfl;have ln:pE [.tup [m,t]]=My (.int 2):=rfl;have km:kdB m=U6/\kdB t=U6:=by cases t<;>simp_all[okW,kdB,mQ]
  obtain⟨k1,ek⟩:=qX km.1;obtain⟨k2,ek2⟩:=qX km.2;have wm:jV [m]=My (.bl (whB m)):=by show((mQ m).map λ _=>Dt.bl (whB m))=_;rw[ek];rfl
  by_cases c1:whB m=U6
  rotate_left
  ·have e:kM (.tup [m,t])=U7:=by cases m<;>first | rfl | (exact absurd rfl c1)
   rw[bx]at c1;rw[c1]at wm;rw[e];simp[jP,iT,ln,wm]
  rw[c1]at wm;obtain⟨n,rfl⟩:∃ n,m=.int n:=by cases m<;>first | exact⟨_,rfl⟩ | cases c1
  by_cases c2:2<=n/\n<=8
  rotate_left
  ·have e:kM (.tup [.int n,t])=U7:=by
    cases t<;>first | rfl | (simp[kM,c2])
   rw[e];by_cases c3:2<=n
   ·have c4:¬ n<=8:=λ z=>c2 ⟨c3,z⟩;simp[jP,iT,ln,wm,c3,c4]
   ·simp[jP,iT,ln,wm,c3]
  obtain⟨h2,h8⟩:=c2;by_cases c3:∃ ts,t=.tup ts
  rotate_left
  ·have e:kM (.tup [.int n,t])=U7:=by
    cases t<;>first | rfl | (exact absurd ⟨_,rfl⟩ c3)
   have iF:lC [t,.ty "tuple"]=My (.bl U7):=by cases t<;>first | rfl | (exact absurd ⟨_,rfl⟩ c3) | cases ek2
   rw[e];simp[jP,iT,ln,wm,h2,h8,iF]
  obtain⟨ts,rfl⟩:=c3;have ok:ts.length<=1000/\ts.all kT=U6:=by simpa [okW,kdB,mQ] using hx
  obtain⟨hlen,hk⟩:=ok;rw[bF]at hk;have iT2:lC [.tup ts,.ty "tuple"]=My (.bl U6):=rfl;have lc:=jo (enc:=id) (gg:=ggN 0) (ge:=hG 2 nH (gP (gT 1) (gP (gT 0) gS))) (δc:=[U5,My (.int n)]) (δa:=λ d=>[My d,My (.int n)]) (enc':=λ d=>.bl (jN n d)) ts λ d hd=>⟨rfl,by have:=Jv n (hk d hd);simp[this]⟩
  have e2:(ts.map λ d=>Dt.bl (jN n d))=(ts.map (jN n)).map Dt.bl:=by simp
  rw[cY,e2]at lc;have e3:(ts.map (jN n)).all id=ts.all (jN n):=by rw[fk];rfl
  have al:xD [.lst ((ts.map (jN n)).map Dt.bl)]=My (.bl (ts.all (jN n))):=by rw[<-e3];generalize ts.map (jN n)=bs;simp[xD,tR]
  by_cases c4:ts.all (jN n)=U6
  rotate_left
  ·have e:kM (.tup [.int n,.tup ts])=U7:=by
    rw[bx]at c4;simp[kM,c4]
   rw[bx]at c4;rw[c4]at al;rw[e];generalize (ts.map (jN n)).map Dt.bl=bs at *;simp[jP,iT,ln,wm,h2,h8,iT2,lc,al,hlen]
  rw[c4]at al;obtain⟨et,ok⟩:=yb c4;have ri:=T_ (ts.map iS) (by rw[ah];exact hlen);have et':iK (ts.map iS)=.tup ts:=by show Dt.tup ((ts.map iS).map hJ)=_;rw[<-et]
  rw[et']at ri;by_cases c5:rise (ts.map iS)=U6
  rotate_left
  ·have e:kM (.tup [.int n,.tup ts])=U7:=by
    rw[bx]at c5;simp[kM,c5]
   rw[bx]at c5;rw[c5]at ri;rw[e];generalize (ts.map (jN n)).map Dt.bl=bs at *;simp[jP,iT,ln,wm,h2,h8,iT2,lc,al,hlen,ri]
  have le:=CU (n:=n.toNat) c5 (λ p hp=>by have:=ok p hp;lia) (by lia);have di:=Ua (l:=ts.map iS) (by lia) 0;rw[et']at di;have e7:(lM (bfs (ts.map iS) 0)).length=(bfs (ts.map iS) 0).length:=by rw[lM,ah]
  have e:kM (.tup [.int n,.tup ts])=decide (((bfs (ts.map iS) 0).length:Int)=n):=by simp[kM,c4,c5,h2,h8]
  rw[c5]at ri;rw[e];have ld:Fi [.dct (lM (bfs (ts.map iS) 0))]=My (.int ((bfs (ts.map iS) 0).length:Nat)):=by rw[<-e7];rfl
  generalize Dt.dct (lM (bfs (ts.map iS) 0))=dd,(((bfs (ts.map iS) 0).length:Nat):Int)=z,(ts.map (jN n)).map Dt.bl=bs at *;have di:oq [.tup ts,.int 0]=My dd:=di;have eq:lx (.int z) (.int n)=My (.bl (decide (z=n))):=by show My (Dt.bl (z==n))=_;congr 2
  simp[jP,iT,ln,wm,h2,h8,iT2,lc,al,hlen,ri,di,ld,eq]
 | .tup [],_=>rfl
 | .tup [a],_=>cases a<;>rfl
 | .tup (a::b::c::r),hx =>
  have iT:lC [.tup (a::b::c::r),.ty "tuple"]=My (.bl U6):=rfl;have ln:pE [.tup (a::b::c::r)]=My (.int ((r.length:Int)+3)):=by show My (Dt.int (((a::b::c::r).length:Nat):Int))=_;simp;lia
  have ne:¬ ((r.length:Int)+3=2):=by lia
  have e:kM (.tup (a::b::c::r))=U7:=by cases a<;>first | rfl | (cases b<;>rfl)
  rw[e];show jP [My (.tup (a::b::c::r)),U5,U5]=_;generalize (r.length:Int)+3=z,Dt.tup (a::b::c::r)=t at *;simp[jP,iT,ln,ne]
 | .non,_=>rfl
 | .bl _,_=>rfl
 | .int _,_=>rfl
 | .str _,_=>rfl
 | .lst _,_=>rfl
 | .dct _,_=>rfl
section
variable {g g':DE->gJ RX}{δ:DE}{gx gx':DE->gJ XD}{gs:DE->gJ (List Dt)}{gd:DE->gJ Dt}{gr:DE->gJ RD}{gb:DE->gJ Bool}{gt:DE->gJ (Except Str Bool)}{n i:Nat}{f:List Dt->gJ XD}
@[simp] theorem SN:qo n f gs δ=(gs δ).bind λ ds=>if ds.length=n then f ds else U5:=rfl
@[simp] theorem UQ:xTr gx δ=(gx δ).bind λ r=>match r with | .ok d=>(DU d).map .ok | .error c=>My (.error c):=rfl
@[simp] theorem UR:xIf gb gx gx' δ=(gb δ).bind λ k=>if k=U6 then gx δ else gx' δ:=rfl
@[simp] theorem US:xUp gr δ=(gr δ).map upX:=rfl
@[simp] theorem UT (d:DE):upX (.nx d)=.nx d:=rfl
@[simp] theorem UU (d:Dt):upX (.rt d)=.rt d:=rfl
@[simp] theorem Ub:Ba g g' δ=(g δ).bind λ r=>match r with | .nx δ'=>g' δ' | .rt d=>My (.rt d) | .ex c=>My (.ex c):=rfl
@[simp] theorem SO:uf gx δ=(gx δ).map λ r=>match r with | .ok _=>.nx δ | .error c=>.ex c:=rfl
@[simp] theorem Uc:Pk gx δ=(gx δ).map λ r=>match r with | .ok d=>.rt d | .error c=>.ex c:=rfl
@[simp] theorem Ud:Jo gb g g' δ=(gb δ).bind λ k=>if k=U6 then g δ else g' δ:=rfl
end
def xR (c:Str)(g:DE->gJ Dt):DE->gJ RX:=λ δ=>(g δ).map λ _=>.ex c
@[simp] theorem U4 (c:Str) (g:DE->gJ Dt) (δ:DE):xR c g δ=(g δ).map λ _=>.ex c:=rfl
theorem LW {w:Web}(g:Good w):kM (h_ w)=U6:=by
 have h2:=g.two;have h8:=g.mv;have ha:(w.2.map hJ).all (jN w.1)=U6:=by rw[bF];intro d hd;obtain⟨t,ht,rfl⟩:=aE.mp hd;have:=g.ok t ht;show decide (0<=(t.1:Int)/\(t.1:Int)<t.2/\(t.2:Int)<w.1)=U6;rw[decide_eq_true_eq];lia
 have hp:(w.2.map hJ).map iS=w.2:=by
  rw[aU];conv=>rhs;rw[<-cY w.2]
  exact bR λ t _=>by show((t.1:Int).toNat,(t.2:Int).toNat)=t;simp
 show(decide (2<=(w.1:Int)/\(w.1:Int)<=8)&&((w.2.map hJ).all (jN w.1)&&(rise ((w.2.map hJ).map iS)&&decide (((bfs ((w.2.map hJ).map iS) 0).length:Int)=w.1))))=U6;rw[ha,hp,g.rise,g.all,decide_eq_true (by lia)];simp
set_option tactic.hygienic true in
theorem FG (x:Dt):kM x=(dW x).isSome:=by
 cases e:dW x with
 | some w =>obtain⟨rfl,g⟩:=oF e;exact LW g
 | none =>
  show kM x=U7;rw[<-bx];intro h;unfold kM at h;split at h
  ·rename_i n ts
   simp only[aP,decide_eq_true_eq]at h;obtain⟨⟨h2,h8⟩,ha,hr,hb⟩:=h;obtain⟨et,ok⟩:=yb ha;have le:=CU (n:=n.toNat) hr (λ p hp=>by have:=ok p hp;lia) (by lia);have g:Good (n.toNat,ts.map iS):=by
    refine⟨by show 2<=n.toNat;lia,by show n.toNat<=8;lia,λ p hp=>by have:=ok p hp;show p.1<p.2/\p.2<n.toNat;lia,hr,by show(bfs (ts.map iS) 0).length=n.toNat;lia,by show(ts.map iS).length<=30;lia,λ z=>?_⟩;have z:ts.map iS=[]:=z;rw[z]at hb;have b0:(bfs ([]:gN) 0).length=1:=by decide +kernel
    rw[b0]at hb;lia
   have ex:Dt.tup [.int n,.tup ts]=h_ (n.toNat,ts.map iS):=by show _=Dt.tup [.int ((n.toNat:Nat):Int),.tup ((ts.map iS).map hJ)];rw[<-et,show((n.toNat:Nat):Int)=n by lia]
   rw[ex,mC g]at e;cases e
  ·cases h
def xW (x:Dt):Except Str Web:=match dW x with
 | some w=>.ok w
 | none=>.error "NoWeb"
def Ru:Dt->Nat
 | .int i=>i.toNat
 | _=>0
def xP (w:Web)(x:Dt):Except Str Nat:=if nU w.1 x=U6 then .ok (Ru x) else .error "NoPlace"
set_option tactic.hygienic true in
theorem Nr {x:Dt}{w:Web}(h:xW x=.ok w):x=h_ w/\Good w:=by
 unfold xW at h;split at h
 ·rename_i w' e;cases h;exact oF e
 ·cases h
theorem pS {w:Web}(g:Good w):xW (h_ w)=.ok w:=by unfold xW;rw[mC g]
set_option tactic.hygienic true in
theorem Jw {w:Web}{x:Dt}{a:Nat}(h:xP w x=.ok a):x=gR a/\a<w.1:=by
 unfold xP at h;by_cases c:nU w.1 x=U6
 ·rw[ai c]at h
  cases h;unfold nU at c;split at c
  ·rename_i i
   rw[decide_eq_true_eq]at c;constructor
   ·show Dt.int i=.int ((i.toNat:Nat):Int);rw[show((i.toNat:Nat):Int)=i by lia]
   ·show i.toNat<w.1;lia
  ·cases c
 ·rw[au c]at h;cases h
theorem pT {w:Web}{a:Nat}(h:a<w.1):xP w (gR a)=.ok a:=by
 unfold xP;have c:nU (w.1:Int) (gR a)=U6:=by show decide (0<=(a:Int)/\(a:Int)<(w.1:Int))=U6;rw[decide_eq_true_eq];lia
 rw[ai c];show Except.ok (a:Int).toNat=_;simp
theorem Rv {w:Web}{x:Dt}(h:nU w.1 x=U7):xP w x=.error "NoPlace":=by unfold xP;rw[h,au ax]
def Rw (F:Dt->gJ XD):List Dt->gJ XD
 | [x]=>F x
 | _=>U5
def Pn (F:Dt->Dt->gJ XD):List Dt->gJ XD
 | [x,y]=>F x y
 | _=>U5
theorem Jx {F:Dt->gJ XD}{ds:List Dt}{r:XD}(h:Rw F ds=My r):∃ x,ds=[x]/\F x=My r:=by
 match ds,h with
 | [x],h=>exact⟨x,rfl,h⟩
theorem CV {F:Dt->Dt->gJ XD}{ds:List Dt}{r:XD}(h:Pn F ds=My r):∃ x y,ds=[x,y]/\F x y=My r:=by
 match ds,h with
 | [x,y],h=>exact⟨x,y,rfl,h⟩
def qw {α:Type}:Except Str α->XD
 | .ok _=>.ok .non
 | .error c=>.error c
def md:List Dt->gJ XD:=Rw λ x=>if okW x=U6 then My (qw (xW x)) else U5
def nz:DE->gJ RX:=Jo (lP (gTr (hG 1 rP (gP (gT 0) gS)))) (xR "NoWeb" (gC (.str "this is no web"))) (xUp mL)
def ku:List Dt->gJ XD:=Pn λ y x=>(dW y).bind λ w=>if kdB x=U6 then My (qw (xP w x)) else U5
def me:DE->gJ RX:=Jo (lP (gTr (hG 2 lS (gP (g_ dIx (gT 0) (gC (.int 0))) (gP (gT 1) gS))))) (xR "NoPlace" (gC (.str "this is no place of the web"))) (xUp mL)
theorem ze:HgX 1 ["thing"] md nz:=by
 intro ds r hl h;obtain⟨x,rfl,h1⟩:=Jx h;clear h;by_cases hx:okW x=U6
 rotate_left
 ·rw[au hx]at h1;cases h1
 rw[ai hx]at h1;cases h1;have c:rP [x]=My (.bl (kM x)):=by show(if okW x=U6 then My (Dt.bl (kM x)) else U5)=_;rw[ai hx]
 rw[FG]at c;unfold xW;cases e:dW x with
 | some w=>rw[e]at c;exact⟨.nx [My x],by simp[nz,c],rfl⟩
 | none=>rw[e]at c;exact⟨.ex "NoWeb",by simp[nz,c],rfl⟩
theorem vY:HgX 2 ["web","thing"] ku me:=by
 intro ds r hl h;obtain⟨y,x,rfl,h1⟩:=CV h;obtain⟨w,e,h2⟩:=gU h1;clear h h1;by_cases hx:kdB x=U6
 rotate_left
 ·rw[au hx]at h2;cases h2
 rw[ai hx]at h2;cases h2;obtain⟨rfl,g⟩:=oF e;have ix:dIx (h_ w) (.int 0)=My (.int w.1):=rfl;have c:=Eo w.1 hx;unfold xP;generalize h_ w=ww at *;by_cases cc:nU w.1 x=U6
 ·rw[ai cc];rw[cc]at c;exact⟨.nx [My ww,My x],by simp[me,ix,c],rfl⟩
 ·rw[au cc];rw[bx]at cc;rw[cc]at c;exact⟨.ex "NoPlace",by simp[me,ix,c],rfl⟩
theorem cw_X {x:Dt}(h:okW x=U6):md [x]=My (qw (xW x)):=by show(if okW x=U6 then My (qw (xW x)) else U5)=_;rw[ai h]
theorem Po {w:Web}(g:Good w){x:Dt}(h:kdB x=U6):ku [h_ w,x]=My (qw (xP w x)):=by show(dW (h_ w)).bind (λ w=>if kdB x=U6 then My (qw (xP w x)) else U5)=_;rw[mC g,ak,ai h]
section
variable {X:Cx}{a b c d:Expr}{ta tb tc td:TE}{pos:Pos}
def LX (r r' r2:R2)(ta tb tc td:TE):TE:=λ σ H Q=>ta σ H λ x H1=>tb σ H1 λ y H2=>r x y H2 λ z H3=>∃ k,z=.bl k /\
 (if k=U6 then tc σ H3 λ w H4=>r' y w H4 λ z H5=>∃ k,z=.bl k/\(if k=U6 then td σ H5 λ u H6=>r2 w u H6 Q else Q (.bl U7) H5) else Q (.bl U7) H3)
theorem GO {op op' op2:CmpOp}{r r' r2:R2}(ho:OpR X (compareOp op) r)(ho':OpR X (compareOp op') r')(ho2:OpR X (compareOp op2) r2)(ha:PE X a ta)(hb:PE X b tb)(hc:PE X c tc)(hd:PE X d td)
  (hm:lastMarks [op,op',op2] [b,c,d]=U7:=by with_unfolding_all rfl):PE X (.Compare a [op,op',op2] [b,c,d] pos) (LX r r' r2 ta tb tc td):=by
 intro pins s σ H Q I h;refine Compare_chain (thn (ha pins s σ H _ I h) λ v s1 ⟨x,H1,I1,r1,q1⟩=>chain_link (thn (hb pins s1 σ H1 _ I1 q1) λ u s2 ⟨y,H2,I2,r2,q2⟩ =>thn (ho pins s2 σ H2 x y v u _ I2 r1 r2 q2) λ d s3 ⟨z,H3,I3,r3,k,e,q3⟩=>?_)) hm
 subst e;cases r3;refine bT ?_;cases k with
 | false=>exact ite_ff ⟨.bl U7,H3,I3,rfl,q3⟩
 | true =>
  refine ite_tt (chain_link (thn (hc pins s3 σ H3 _ I3 q3) λ w' s4 ⟨z',H4,I4,r4,q4⟩=>thn (ho' pins s4 σ H4 y z' u w' _ I4 r2 r4 q4) λ d s5 ⟨z,H5,I5,r5,k,e,q5⟩=>?_));subst e;cases r5;refine bT ?_;cases k with
  | false=>exact ite_ff ⟨.bl U7,H5,I5,rfl,q5⟩
  | true=>exact ite_tt (chain_last (thn (hd pins s5 σ H5 _ I5 q5) λ u' s6 ⟨z2,H6,I6,r6,q6⟩=>ho2 pins s6 σ H6 z' z2 w' u' Q I6 r4 r6 q6))
def Bd (f f' f2:Dt->Dt->gJ Dt)(ga gb gc gd:DE->gJ Dt):DE->gJ Dt:=λ δ=>(ga δ).bind λ x=>(gb δ).bind λ y=>(f x y).bind λ z=>(asB z).bind λ k=>if k=U6 then (gc δ).bind λ w=>(f' y w).bind λ z=>(asB z).bind λ k=>if k=U6 then (gd δ).bind λ u=>f2 w u else My (.bl U7) else My (.bl U7)
@[simp] theorem Rx (f f' f2:Dt->Dt->gJ Dt) (ga gb gc gd:DE->gJ Dt) (δ:DE):Bd f f' f2 ga gb gc gd δ=(ga δ).bind λ x=>(gb δ).bind λ y=>(f x y).bind λ z=>(asB z).bind λ k=>if k=U6 then (gc δ).bind λ w=>(f' y w).bind λ z=>(asB z).bind λ k=>if k=U6 then (gd δ).bind λ u=>f2 w u else My (.bl U7) else My (.bl U7):=rfl
theorem Jy {op op' op2:CmpOp}{f f' f2:Dt->Dt->gJ Dt}{ga gb gc gd:DE->gJ Dt}(ho:OpR X (compareOp op) (rD X.K f))(ho':OpR X (compareOp op') (rD X.K f'))(ho2:OpR X (compareOp op2) (rD X.K f2))(ha:PD X a ga)(hb:PD X b gb)(hc:PD X c gc)(hd:PD X d gd)
  (hm:lastMarks [op,op',op2] [b,c,d]=U7:=by with_unfolding_all rfl):PD X (.Compare a [op,op',op2] [b,c,d] pos) (Bd f f' f2 ga gb gc gd):=(GO ho ho' ho2 ha hb hc hd hm).of λ σ H Q hz=>by
 obtain⟨δ,r,S,e,q⟩:=hz;obtain⟨x,e1,e⟩:=gU e;obtain⟨y,e2,e⟩:=gU e;obtain⟨z,e3,e⟩:=gU e;obtain⟨k,e4,e⟩:=gU e;rw[tJ e4]at e3;refine⟨δ,x,S,e1,λ v H1 s1 i1=>⟨δ,y,S.ext s1,e2,λ v2 H2 s2 i2=>⟨x,y,_,i1.ext s2,i2,e3,λ v3 H3 s3 i3=>⟨k,i3.jY,?_⟩⟩⟩⟩;have s13:=(s1.trans s2).trans s3;cases k with
 | false=>rw[au ax]at e ⊢;cases e;exact q _ H3 s13 (.bl U7)
 | true =>
  rw[ai rfl]at e ⊢;obtain⟨w,f1,e⟩:=gU e;obtain⟨z,f3,e⟩:=gU e;obtain⟨k,f4,e⟩:=gU e;rw[tJ f4]at f3;refine⟨δ,w,S.ext s13,f1,λ v4 H4 s4 i4=>⟨y,w,_,(i2.ext s3).ext s4,i4,f3,λ v5 H5 s5 i5=>⟨k,i5.jY,?_⟩⟩⟩;have s15:=(s13.trans s4).trans s5;cases k with
  | false=>rw[au ax]at e ⊢;cases e;exact q _ H5 s15 (.bl U7)
  | true =>rw[ai rfl]at e ⊢;obtain⟨u,g1,e⟩:=gU e;exact⟨δ,u,S.ext s15,g1,λ v6 H6 s6 i6=>⟨w,u,_,(i4.ext s5).ext s6,i6,e,λ v7 H7 s7 i7=>q v7 H7 ((s15.trans s6).trans s7) i7⟩⟩
end
end L2
namespace Tb
open PySem PySem.Spec PyProof.Rows
section
variable {prog:Program}{w:World}{A:Around}{E:gH}{s:gM}{G:List Int->Addr->Prop}
theorem GP {R:Result->gM->Prop}(hh:A.in1.handled=U5)(hu:A.in1.units<cLine){S I l:Addr}{items:Array gL}{kk:List (List Int)}(hk:kk.length=items.size)(h40:items.size<=40)(n1:S≠I)(n2:S≠l)(n3:l≠I) :
  ∀ (n i:Nat) (s:gM) (ks:List (List Int)),items.size-i=n->i<=items.size->s.heap.IsTupleIter I l i->s.heap.IsTuple l items->rW G prog w s.heap S ks ->
   (∀ (j:Nat) v,items[j]?=My v->∃ k b,kk[j]?=My k/\v=.ref b/\lV prog w s.heap k b/\G k b)->ks.length<=i->(∀ k,k∈ks↔k∈kk.take i) ->
   (∀ h' tk ks',(∀ b o,b≠S->b≠I->s.heap.get? b=My o->h'.get? b=My o)->rW G prog w h' S ks'->(∀ k,k∈ks'↔k∈kk)->R (.ok (.ret .none)) {s with heap:=h',toks:=tk}) ->
   codeAny (model prog w) A (.builtin "set.update.loop" ⟨[.ref S,.ref I],[]⟩) R s:=by
 intro n;induction n using Nat.strongRecOn with
 | ind n ih =>
  intro i s ks hn hi st hl hS hv hlen hm fin;refine codeAny_builtin F.entry_set_update_loop ?_;rw[fH dX _];have tupI:∀ {h h':Heap} {b:Addr} {o:Obj} {x:Addr} {j:Nat},h.IsTupleIter x l j->h.get? b=My o->o.cls=.type "tuple"->b≠x:=λ hit e c z=>by obtain⟨o',e',c',_⟩:=hit;rw[z,e']at e;cases e;rw[c']at c;injection c with c;exact absurd c (by decide)
  by_cases hlt:i<items.size
  ·show wpAny _ A.in1 (pyNext (.ref I)>>=_) _ _ s
   refine ae (wpAny_pyNext_tuple_item st hl (x:=items[i]) (by simp[hlt]) λ h' st' sb=>?_);obtain⟨k,b,hkk,eb,tb,gb⟩:=hv i items[i] (by simp[hlt]);rw[eb];have bI:b≠I:=by obtain⟨o,its,m,q1,q2,_⟩:=tb;exact tupI (h':=h') st q1 q2
   have S1:rW G prog w h' S ks:=hS.keep (λ o e=>(sb.2 S n1).trans e) λ c o e hc=>(sb.2 c (tupI (h':=h') st e hc)).trans e;have tb1:lV prog w h' k b:=my tb λ o e=>(sb.2 b bI).trans e;refine ae (bQ (E1 (s:={s with heap:=h'}) hu S1 tb1 gb (by lia) λ h2 ks2 c tk sb2 S2 p2=>?_));have keep2:∀ x o,x≠S->x≠I->s.heap.get? x=My o->h2.get? x=My o:=λ x o x1 x2 e=>(sb2.2 x x1).trans ((sb.2 x x2).trans e);refine af ⟨plainId_quiet dX _,?_⟩;have mem2:∀ k',k'∈ks2↔k'∈kk.take (i+1):=λ k'=>by
    rw[p2.mem_iff,List.take_add_one,hkk,a_,<-hm k'];by_cases hin:k∈ks
    ·rw[ai hin];simp only[eV,aD,bg,or_false];exact⟨.inl,λ z=>z.elim id λ z=>z▸hin⟩
    ·rw[au hin];simp only[eV,aD,bg,or_false];exact⟨λ z=>z.symm,λ z=>z.symm⟩
   have len2:ks2.length<=i+1:=by
    rw[p2.length_eq];split
    ·lia
    ·rw[bf];lia
   obtain⟨ol,hol,hcl,m,hdl⟩:=id hl;refine ih (n-1) (by lia) (i+1) {s with heap:=h2,toks:=tk} ks2 (by lia) hlt ?_ ⟨ol,keep2 l ol n2.symm n3 hol,hcl,m,hdl⟩ S2 (λ j v hj=>?_) len2 mem2 λ h3 tk3 ks3 kp3 S3 m3=>?_
   ·obtain⟨oI,eI,cI,dI⟩:=st';exact⟨oI,(sb2.2 I n1.symm).trans eI,cI,dI⟩
   ·obtain⟨k',b',q1,q2,q3,g3⟩:=hv j v hj
    refine⟨k',b',q1,q2,my q3 λ o e=>?_,g3⟩;have c1:b'≠I:=by obtain⟨o',its,m,z1,z2,_⟩:=q3;exact tupI (h':=h') st z1 z2
    have c2:b'≠S:=by rintro rfl;obtain⟨oS,es,ep,t,z1,_,z2,_⟩:=hS;obtain⟨o',its,m,y1,_,y3,_⟩:=q3;rw[z1]at y1;cases y1;rw[z2]at y3;cases y3
    exact keep2 b' o c2 c1 e
   ·exact fin h3 tk3 ks3 (λ x o x1 x2 e=>kp3 x o x1 x2 (keep2 x o x1 x2 e)) S3 m3
  ·have e:i=items.size:=by lia
   show wpAny _ A.in1 (pyNext (.ref I)>>=_) _ _ s;refine ae (wpAny_pyNext_tuple_end hh st hl (cX (fM e.symm)) λ h' eb=>?_);show wpAny _ A.in1 (ret Value.none) _ _ _;refine af (fin h' s.toks ks (λ x o _ x2 q=>eb x o x2 q) (hS.keep (λ o q=>eb S o n1 q) λ c o q hc=>eb c o (tupI (h':=h') st q hc) q) λ k=>?_);rw[hm k,e,<-hk,eD]
theorem Bf {l:Addr}{items:Array gL}{kk:List (List Int)}{Q:gH}(hh:A.handled=U5)(hu:A.units+40<cLine)(hl:s.heap.IsTuple l items)(hk:kk.length=items.size)(h40:items.size<=40)
  (hv:∀ (j:Nat) v,items[j]?=My v->∃ k b,kk[j]?=My k/\v=.ref b/\lV prog w s.heap k b/\G k b)
  (h:∀ h' tk ks,(∀ b o,b<s.heap.objs.size->s.heap.get? b=My o->h'.get? b=My o)->rW G prog w h' s.heap.objs.size ks->(∀ k,k∈ks↔k∈kk)->Q (.ref s.heap.objs.size) {s with heap:=h',toks:=tk}) :
  wpAny (model prog w) A (call (.type "set") [.ref l]) Q E s:=by
 obtain⟨c0,tl0,hmro⟩:=cb.mro;have hmade:=cb.made;have hsub:=cb.sub;refine gf (codeAny_of_tree ?_);show wpAny _ _ (callAny (.type "set") _) _ _ _;refine af ⟨fS _ (by decide +kernel),codeAny_builtin F.entry_type_call ?_⟩;rw[Around.under_plain (weight_type_call_type "set" [.ref l] []) rfl];have hnt:=cb.notType;have hcc:=cb.canCreate;have hct:=F.typeCall_set_1 (.ref l);repeat (any_goals (first | assumption | wp_step))
 refine codeAny_mono (E2 (a:=.ref l) (E:=E) (Q₁:=λ obj s₁=>obj=.ref s.heap.objs.size/\s₁={s with heap:=s.heap.push {cls:=.type "set",dict:=U5,data:=.set #[] 0 (.fresh 0 0 (!(w.params.followText "set-order")))}}) ⟨rfl,rfl⟩) λ r s₁ hr=>?_;cases r with
 | error e=>exact hr
 | ok fl =>
  cases fl with
  | ret obj =>
   obtain⟨rfl,rfl⟩:=hr;generalize hN0:({cls:=.type "set",dict:=U5,data:=.set #[] 0 (.fresh 0 0 (!(w.params.followText "set-order")))}:Obj)=N0;have hS:(s.heap.push N0).get? s.heap.objs.size=My N0:=aF _ (by rw[<-hN0];rfl);have hT:Shared.TypeIs {s with heap:=s.heap.push N0} (.ref s.heap.objs.size) "set":=⟨_,hS,by rw[<-hN0]⟩;have hli:=cb.init.lookup;have hbi:=cb.init.bind (.ref s.heap.objs.size);repeat (any_goals (first | assumption | wp_step))
   refine codeAny_mono (codeAny_call_builtin (R:=wants (λ r s₂=>r=.none/\∃ h' tk ks,s₂={s with heap:=h',toks:=tk}/\rW G prog w h' s.heap.objs.size ks/\(∀ k,k∈ks↔k∈kk)/\(∀ b o,b<s.heap.objs.size->s.heap.get? b=My o->h'.get? b=My o)) E)
    cb.init.plain F.entry_set_init (check_set_init_1 hT ?_)) λ r₂ s₂ hr₂=>?_
   ·obtain⟨ol,hol,hcl,nl,hdl⟩:=id hl
    obtain⟨ocls,odict,odata,oslots⟩:=ol;simp only at hcl hdl;subst hcl;subst hdl;have hol':(s.heap.push N0).get? l=My {cls:=.type "tuple",dict:=odict,data:=.seq items nl,slots:=oslots}:=ag _ hol;have hsls:=F.sub_tuple_set;have hslf:=F.sub_tuple_frozenset;have hne:(Value.type "tuple"==Value.type "dict")=U7:=by decide
    have hl1:(s.heap.push N0).IsTuple l items:=⟨_,hol',rfl,nl,rfl⟩;have hS0:(s.heap.push N0).get? s.heap.objs.size=My {cls:=.type "set",dict:=U5,data:=.set #[] 0 (.fresh 0 0 (!(w.params.followText "set-order")))}:=by rw[hS,hN0]
    unfold Builtin.«set.__init__» noKeywords Builtin.Frozenset.updateFrom;generalize hPI:pyIter=PI
    wp_walk
    subst hPI;refine fN hl1 ?_;refine ae (wpAny_runValue ?_);have hlS:l<s.heap.objs.size:=av hol;have szP:(s.heap.push N0).objs.size=s.heap.objs.size+1:=cH ..;have keep:∀ b o,s.heap.get? b=My o->((s.heap.push N0).push {cls:=.type "tuple_iterator",data:=.fields #[.ref l,.int 0 0]}).get? b=My o:=λ b o e=>ag _ (ag _ e);refine GP (G:=G) (A:=A.in1.in1) (by simp[hh]) (bN (show A.units+3<=A.units+40 by lia) hu) hk h40 (by rw[szP];exact aM (eE _)) (bU hlS) (by rw[szP];exact aM (dN hlS)) items.size 0 _ [] (by lia) (aT _)
     ⟨_,aF _ rfl,rfl,rfl⟩ (hl1.push _) ⟨_,#[],0,.fresh 0 0 (!(w.params.followText "set-order")),ag _ hS0,⟨rfl,rfl,rfl⟩,rfl,?_,.nil,rfl,rfl,.inl ⟨rfl,aT _⟩,gF⟩ (λ j v hj=>?_) (aw _) (by simp) λ h' tk ks kp S' m'=>?_
    ·exact⟨.inl rfl,rfl,λ a b x y _ e=>by simp[SetTable.fresh]at e,λ i j e=>by simp[SetTable.fresh]at e,rfl,aT _,λ i j h e=>by simp[SetTable.fresh]at e⟩
    ·obtain⟨k,b,q1,q2,q3,g3⟩:=hv j v hj;exact⟨k,b,q1,q2,my q3 (λ o e=>keep b o e),g3⟩
    ·show wpAny _ _ _ _ _ _;refine af ?_;show wpAny _ _ (ret Value.none) _ _ _;refine af ⟨rfl,h',tk,ks,rfl,S',m',λ b o hb e=>kp b o (aM hb) (by rw[szP];exact aM (dN hb)) (keep b o e)⟩
   ·cases r₂ with
    | error e=>exact hr₂
    | ok fl₂ =>
     cases fl₂ with
     | ret r =>
      obtain⟨rfl,h',tk,ks,rfl,S',m',kp⟩:=hr₂;repeat (any_goals (first | assumption | wp_step))
      exact h _ _ _ kp S' m'
     | _=>exact hr₂.elim
  | _=>exact hr.elim
end
end Tb
namespace L2
open PySem PySem.W PySem.Spec PyProof.Rows Tb
section
variable {X:Cx}{pins:gO}{σ:St}{H:Hp}{s:gM}
theorem Nt (I:Inv X pins σ H s){k:List Int}{b:Addr}(e:SqT X.K H b (k.map V.int)):lV X.prog X.w s.heap k b:=by obtain⟨its,r,⟨o,e1,e2,n,e3⟩,_⟩:=I.tuple e;exact⟨o,its.toArray,n,e1,e2,e3,by simpa using pz r⟩
def FH (K:gK)(H:Hp)(vs:List V)(kk:List (List Int)):Prop:=Paired (λ v k=>∃ b,v=V.ref b/\SqT K H b (k.map V.int)) vs kk
def Ry (K:gK)(w:World)(H:Hp)(S:Addr)(ks:List (List Int)):Prop:=∃ oS es ep t,H S=My (.ext λ h=>h.get? S=My oS)/\oS.ExactSet/\oS.data=.set es ep t/\TOk t (es.toList.map (·.1))/\t.plain=U6/\t.led=!(w.params.followText "set-order")/\es.size<=76/\ks.Nodup /\
 Paired (λ k (e:Int×gL)=>∃ b,e.2=Value.ref b/\SqT K H b (k.map V.int)) ks es.toList
theorem GQ (hc:X.calm=U6)(hu:X.A.units+64<cLine):jy X (.type "set") (λ xs H Q=>∃ l vs kk,xs=[V.ref l]/\SqT X.K H l vs/\FH X.K H vs kk/\vs.length<=40 /\
  ∀ S o ks,H S=U5->Ry X.K X.w (upd H S o) S ks->(∀ k,k∈ks↔k∈kk)->Q (.ref S) (upd H S o)):=by
 intro pins s σ H xs us Q I r h;obtain⟨l,vs,kk,rfl,hl,ht,hz,q⟩:=h;obtain⟨u,rfl,ru⟩:=vals1 r;cases ru;obtain⟨its,rv,p,_⟩:=I.tuple hl;have hlen:vs.length=its.length:=rv.length;have hkl:vs.length=kk.length:=ht.length;refine Bf (G:=λ k b=>SqT X.K H b (k.map V.int)) (I.ok.hd hc) (bN (show X.A.units+40<=X.A.units+64 by lia) hu) (show s.heap.IsTuple l its.toArray from p) (kk:=kk) (by simp;lia) (by simp;lia) (λ j v hj=>?_) λ h' tk ks kp S' m'=>?_
 ·have hj:its[j]?=My v:=by simpa using hj
  have hjl:j<vs.length:=by have:=(aN.mp hj).1;lia
  obtain⟨k,hk1,b,hb,hb2⟩:=oU ht j vs[j] (by simp[hjl]);obtain⟨u,hu1,hu2⟩:=rv.get (x:=vs[j]) (i:=j) (by simp[hjl]);rw[hj]at hu1;cases hu1;rw[hb]at hu2;cases hu2;exact⟨k,b,hk1,rfl,Nt I hb2,hb2⟩
 ·obtain⟨oS,es,ep,t,ho,hx,hd,T,En,hp,hl',hr,nd⟩:=S';have keep:∀ b u,s.heap.get? b=My u->h'.get? b=My u:=λ b u e=>kp b u (av e) e;have hn:=I.hok.fresh (aw s.heap.objs.size);have I':Inv X pins σ (upd H s.heap.objs.size (.ext λ h=>h.get? s.heap.objs.size=My oS)) {s with heap:=h',toks:=tk}:=I.laid keep (aw _) ⟨ho,⟨_,ho⟩,λ h1 h2 a b=>b _ a⟩;refine⟨.ref s.heap.objs.size,_,I',rfl,q _ _ ks hn ⟨oS,es,ep,t,gZ,hx,hd,T,hp,hl',?_,nd,nK (λ k e ⟨b,e1,_,e2⟩=>⟨b,by rw[e1],(g6.upd hn).uT e2⟩) En⟩ m'⟩;rcases hr with⟨_,z⟩ | ⟨_,z⟩ | ⟨_,z⟩<;>lia
theorem Bg (hc:X.calm=U6):jy X (.builtin "sorted") (λ xs H Q=>∃ S kk,xs=[V.ref S]/\Ry X.K X.w H S (kk.map λ(k:Int×Int)=>[k.1,k.2])/\kk.length<64 /\
  ∀ p ws (ss:List (Int×Int)),H p=U5->FH X.K H ws (ss.map λ k=>[k.1,k.2])->ss.Pairwise (λ a b=>pLt a b=U6)->ss.Perm kk->Q (.ref p) (upd H p (.lst ws))):=by
 intro pins s σ H xs us Q I r h;obtain⟨S,kk,rfl,hS,h64,q⟩:=h;obtain⟨u,rfl,ru⟩:=vals1 r;cases ru;obtain⟨oS,es,ep,t,e1,hx,hd,T,hp,hl,hz,nd,pr⟩:=hS;have hok:=I.hok S _ e1;have hS:s.heap.get? S=My oS:=hok.1;obtain⟨m,hm,_⟩:=id I.loc;have no:∀ b,(Att.jr s.heap).get? b=U5:=λ b=>cE (aT _);have hkl:kk.length=es.size:=by have:=pr.length;simpa using this
 have ndk:kk.Nodup:=by rw[aJ]at nd ⊢;rw[bq]at nd;exact nd.imp λ h e=>h (by rw[e])
 obtain⟨k3,pk,pr3⟩:=vq (rA X.w S ep es).symm (pA _ pr);have hk3:k3.length=es.size:=by rw[<-pk.length_eq,hkl]
 refine eJ kind_sorted plain_sorted entry_sorted (args_sorted1 _) ?_;unfold Builtin.«sorted»;refine ae (m:=checkCount "sorted" 1 1 _) (af (ae (kdu_collect (A:=X.A.in1) (E6 hx hd T hp hl) (I.ok.hd hc) hS (by rw[sizeLine_eq];lia) λ h1 tk acc hk hacc=>?_)));have hal:acc.toList.length=es.size:=by rw[bA];exact hacc.1
 have hav:∀ (j:Nat) (v:gL),acc.toList[j]?=My v->∃ hv,(seen X.w S ep es)[j]?=My (hv,v):=λ j v e=>hacc.2 j v (by rw[<-bh];exact e);generalize acc.toList=vs at hal hav;refine ae (f7 ?_ (by rw[sizeLine_eq];lia));have hL:X.env.locals<h1.objs.size:=by obtain⟨oL,_,_,ho,_⟩:=hm;exact av (hk _ _ ho)
 have at_j:∀ j,j<es.size->∃ b,vs[j]?=My (.ref b)/\SqT X.K H b [.int (k3.getD j (0,0)).1,.int (k3.getD j (0,0)).2]:=λ j hj=>by
  obtain⟨hv,e2⟩:=hav j vs[j] (by simp[hal,hj]);have hj3:k3[j]?=My (k3.getD j (0,0)):=by rw[aq];simp[hk3,hj]
  obtain⟨y,y1,b,y2,y3⟩:=oU pr3 j _ hj3;rw[bh,e2]at y1;cases y1;exact⟨b,by rw[<-y2];simp[hal,hj],y3⟩
 have keep1:∀ b o,s.heap.get? b=My o->(h1.push {cls:=.type "list",data:=.seq vs.toArray}).get? b=My o:=λ b o e=>ag _ (hk b o e);have F1:Fr (Att.jr s.heap) X.env.locals (h1.push {cls:=.type "list",data:=.seq vs.toArray}) m:=⟨hm.at' λ o e=>keep1 _ o e,(λ b o e=>by rw[no]at e;cases e),aT _⟩;have N1:News (Att.jr s.heap) X.env.locals (h1.push {cls:=.type "list",data:=.seq vs.toArray}) (lH (Att.jr s.heap) s.heap X.env.locals):=λ p hp=>let ⟨a,_,c⟩:=ko hp;⟨keep1 _ _ c,a,no _⟩;have hD:(h1.push {cls:=.type "list",data:=.seq vs.toArray}).get? h1.objs.size=My (listOf vs.toArray 0):=aF _ rfl;have hneD:∀ p∈lH (Att.jr s.heap) s.heap X.env.locals,p.1≠h1.objs.size:=λ p hp=>let ⟨_,_,c⟩:=ko hp;aM (av (hk _ _ c));have fin:∀ (l:List Nat) h2 c tk2,l.Perm (U8 es.size)->(l.map λ i=>k3.getD i (0,0)).Pairwise (λ a b=>pLt b a=U7)->Fr (Att.jr s.heap) X.env.locals h2 m->News (Att.jr s.heap) X.env.locals h2 ((h1.objs.size,listOf (List.toArray (l.map λ i=>vs.getD i Value.none)) c)::lH (Att.jr s.heap) s.heap X.env.locals) ->
   EP X pins σ Q (.ref h1.objs.size) {s with heap:=h2,toks:=tk2}:=λ l h2 c tk2 hlp hso F2 N2=>by
  have I2:Inv X pins σ H {s with heap:=h2,toks:=tk2}:=I.rB hm F2 λ p hp=>N2 p (ay _ hp);have hn:H h1.objs.size=U5:=by
   cases e:H h1.objs.size with
   | none=>rfl
   | some o =>obtain⟨o',ho'⟩:=xt (I.hok _ _ e);exact absurd (av (hk _ _ ho')) (aV _)
  have hlt:∀ i∈l,i<es.size:=λ i hi=>aC.mp (hlp.mem_iff.mp hi);let bo:Nat->Addr:=λ i=>match vs[i]? with | some (.ref b)=>b | _=>0
  have hbo:∀ i,i<es.size->vs.getD i Value.none=.ref (bo i)/\SqT X.K H (bo i) [.int (k3.getD i (0,0)).1,.int (k3.getD i (0,0)).2]:=λ i hi=>by
   obtain⟨b,b1,b2⟩:=at_j i hi;have:bo i=b:=by show(match vs[i]? with | some (.ref b)=>b | _=>0)=b;rw[b1]
   rw[this,aq,b1];exact⟨rfl,b2⟩
  have new:jH X.prog X.w (upd H h1.objs.size (.lst (l.map λ i=>V.ref (bo i)))) h2 h1.objs.size (.lst (l.map λ i=>V.ref (bo i))) :=
   ⟨by rw[ah,hlp.length_eq,cJ,sizeLine_eq];lia,l.map λ i=>vs.getD i Value.none,c,lO l λ i hi=>(hbo i (hlt i hi)).1,(N2 _ aB).1⟩
  have I3:Inv X pins σ (upd H h1.objs.size (.lst (l.map λ i=>V.ref (bo i)))) {s with heap:=h2,toks:=tk2}:=I2.B_ hn (bD I.ok.above (d9 hL)) (bU hL) (λ x c e z=>by
    obtain⟨v,o,ho,_⟩:=I.cell x c e;exact absurd (av (hk _ _ ho)) (by rw[z];exact aV _)) (λ p hp z=>by
    exact absurd (av (hk _ _ (I.pin p hp).1)) (by rw[z];exact aV _)) new
  have perm2:(l.map λ i=>k3.getD i (0,0)).Perm kk:=by have:=hlp.map λ i=>k3.getD i (0,0);rw[<-hk3,kq]at this;exact this.trans pk.symm
  have ndl:(l.map λ i=>k3.getD i (0,0)).Nodup:=perm2.nodup_iff.mpr ndk;refine⟨.ref h1.objs.size,_,I3,rfl,q _ _ (l.map λ i=>k3.getD i (0,0)) hn ?_ ?_ perm2⟩
  ·rw[aU];exact lO l λ i hi=>⟨bo i,rfl,(hbo i (hlt i hi)).2⟩
  ·rw[aJ]at ndl
   refine(hso.and ndl).imp λ{a b} ⟨h1,h2⟩=>?_;cases e:pLt a b with
   | true=>rfl
   | false=>exact absurd (Tb.PO.total a b e h1) h2
 refine ae (bQ ?_);by_cases h2:2<=vs.length
 ·refine sD (X:=λ i=>k3.getD i (0,0)) F1 (λ p hp=>?_) hneD h2 (by lia) (λ h' F' N' i v hv=>?_) λ p h' c P So F2 N2=>af ⟨_,rfl,?_⟩
  ·rcases aD.mp hp with rfl | hp
   ·exact⟨hD,bU hL,no _⟩
   ·exact N1 p hp
  ·have hi:i<es.size:=by
    have:=(aN.mp hv).1;lia
   obtain⟨b,b1,b2⟩:=at_j i hi;rw[hv]at b1;cases b1;refine⟨b,rfl,?_⟩;have I2:Inv X pins σ H {s with heap:=h',toks:=s.toks}:=I.rB hm F' N';exact Nt I2 (k:=[_,_]) b2
  ·rw[hal]at P So
   refine fin p.toList h' c _ P.2 ?_ F2 N2;rw[bq,b_];intro i j hi hj hij;have hjs:j<es.size:=by have:=P.size;simp at hj;lia
   have:=So i j (by lia) hjs;unfold KeyOrd.kle Kp at this;have gi:p.getD i 0=p.toList[i]:=by simp[Array.getD,show i<p.size by simpa using hi]
   have gj:p.getD j 0=p.toList[j]:=by simp[Array.getD,show j<p.size by simpa using hj]
   rw[gi,gj]at this;exact this
 ·refine sE hD (by lia) λ h' c kp hc'=>af ⟨_,rfl,?_⟩
  refine fin (U8 es.size) h' c _ (.refl _) ?_ ⟨F1.ns.at' λ o e=>kp _ o (aM hL) e,(λ b o e=>by rw[no]at e;cases e),aT _⟩ λ p hp=>?_
  ·have:((U8 es.size).map λ i=>k3.getD i (0,0)).length<2:=by simp;lia
   match (U8 es.size).map (λ i=>k3.getD i (0,0)),this with
   | [],_=>exact .nil
   | [a],_=>exact dY _ _
  ·rcases aD.mp hp with rfl | hp
   ·refine⟨?_,bU hL,no _⟩;rw[<-hal,kq];exact hc'
   ·exact⟨kp _ _ (hneD p hp) (N1 p hp).1,(N1 p hp).2⟩
end
end L2
namespace L2
open PySem PySem.Spec PyProof.Rows Zp Qs PySem.SeqAt
def uqP:gN->gN
 | []=>[]
 | a::r=>if a∈uqP r then uqP r else a::uqP r
set_option tactic.hygienic true in
theorem wJ {t:Nat×Nat}:∀ {l:gN},t∈uqP l↔t∈l
 | []=>.rfl
 | a::r=>by
  rw[uqP,aD];split
  ·rename_i h;rw[wJ (l:=r)]at h;rw[wJ (l:=r)];exact⟨.inr,λ z=>z.elim (λ z=>z▸h) id⟩
  ·rw[aD,wJ (l:=r)]
set_option tactic.hygienic true in
theorem Bh:∀ l:gN,(uqP l).Nodup
 | []=>gF
 | a::r=>by
  rw[uqP];split
  ·exact Bh r
  ·rename_i h;exact bC.mpr ⟨h,Bh r⟩
def ssP (l:gN):gN:=vW (uqP l)
theorem GR {m:gN}(hm:m.Pairwise λ a b=>mX a b=U6):m.Nodup:=by rw[aJ];exact hm.imp λ{a b} h e=>by subst e;rw[lz]at h;lia
theorem LY {l m:gN}(h1:l.Nodup)(h2:m.Nodup)(h:∀ t,t∈l↔t∈m):l.Perm m:=by
 rw[List.perm_iff_count];intro a;by_cases c:a∈l
 ·rw[h1.count,h2.count,ai c,ai ((h a).mp c)]
 ·rw[h1.count,h2.count,au c,au λ z=>c ((h a).mpr z)]
theorem vC {m l:gN}(hm:m.Pairwise λ a b=>mX a b=U6)(h:∀ t,t∈m↔t∈l):m=ssP l :=
 zT (LY (GR hm) (Bh l) λ t=>by rw[h,wJ]) (hm.imp Gu)
theorem Es (l:gN):(ssP l).Pairwise λ a b=>mX a b=U6:=by have nd:(ssP l).Nodup:=(u6 _).nodup_iff.mpr (Bh l);rw[aJ]at nd;exact((Fv (uqP l)).and nd).imp λ⟨h1,h2⟩=>O5 h1 h2
theorem LZ (l:gN):l=ssP l↔rise l=U6 :=
 ⟨λ h=>by rw[h];exact A6 (Es l),λ h=>vC (nv h) λ _=>.rfl⟩
def dSS (x:Dt):gJ Dt:=(dTt x).bind λ l=>if l.length<=40 then My (.lst ((ssP l).map hJ)) else U5
theorem CW {K:gK}{H:Hp}:∀ {l:gN} {xs:List V},Iss K H xs (l.map hJ)->FH K H xs (l.map λ t=>[(t.1:Int),(t.2:Int)])
 | [],_,.nil=>.nil
 | t::r,_,.cons i is=>by obtain⟨a,ys,rfl,ha,js⟩:=i.iI;obtain⟨v0,v1,rfl,j0,j1⟩:=js.two;rw[j0.int_inv,j1.int_inv]at ha;exact .cons ⟨a,rfl,ha⟩ (CW is)
theorem zW {K:gK}{H:Hp}:∀ {ss:gN} {ws:List V},FH K H ws (ss.map λ t=>[(t.1:Int),(t.2:Int)])->Iss K H ws (ss.map hJ)
 | [],_,.nil=>.nil
 | t::r,_,.cons ⟨a,e,h⟩ hs=>by subst e;exact .cons (.tup h (.cons (.int _) (.cons (.int _) .nil))) (zW hs)
section
variable {X:Cx}{e:Expr}{pos p p2 pos2:Pos}
theorem CY {g:DE->gJ Dt}(hc:X.calm=U6)(hu:X.A.units+64<cLine)(zs:X.mg "sorted"=U5)(zt:X.mg "set"=U5)(he:PD X e g)(hg1:Gl X "sorted":=by rfl)(hg2:Gl X "set":=by rfl)
  (h1:starEach [.Call (.Name "set" p2) [e] [] pos2] X.env=[(U7,eval (.Call (.Name "set" p2) [e] [] pos2) X.env)]:=by rfl) (h2:starEach [e] X.env=[(U7,eval e X.env)]:=by rfl) :
  PD X (.Call (.Name "sorted" p) [.Call (.Name "set" p2) [e] [] pos2] [] pos) (λ δ=>(g δ).bind dSS) :=
 (kD (Bg hc) hg1 zs boot_sorted (gW (kW (GQ hc hu) hg2 zt boot_set (gW he hZ h2) (he:=h2) (hpl:=by rfl)) hZ h1) (he:=h1) (hpl:=by rfl)).of λ σ H Q hz=>by
  obtain⟨δ,d,S,e,q⟩:=hz;obtain⟨x,e1,e2⟩:=gU e;obtain⟨l,e3,e4⟩:=gU e2;by_cases hl:l.length<=40
  rotate_left
  ·rw[au hl]at e4;cases e4
  rw[ai hl]at e4;cases e4;rw[wk e3]at e1;refine⟨δ,_,S,e1,λ v H1 s1 i1=>?_⟩;obtain⟨a,xs,rfl,ha,is⟩:=i1.iI;refine⟨a,xs,_,rfl,ha,CW is,by rw[is.length,ah];exact hl,λ S o ks hS sk mem=>?_⟩;have form:(ks.map λ k=>(k.getD 0 0,k.getD 1 0)).map (λ(k:Int×Int)=>[k.1,k.2])=ks:=by
   rw[aU];conv=>rhs;rw[<-cY ks]
   refine bR λ k hk=>?_;obtain⟨t,ht,rfl⟩:=aE.mp ((mem k).mp hk);rfl
  have nd:ks.Nodup:=sk.choose_spec.choose_spec.choose_spec.choose_spec.2.2.2.2.2.2.2.1;have kl:ks.length<=40:=by have:=aL nd (l₂:=l.map λ t=>[(t.1:Int),(t.2:Int)]) λ k hk=>(mem k).mp hk;rw[ah]at this;lia
  have s2:g6 H1 (upd H1 S o):=g6.upd hS;refine⟨S,ks.map λ k=>(k.getD 0 0,k.getD 1 0),rfl,by rw[form];exact sk,by rw[ah];lia,λ p ws ss hp tu st pm=>?_⟩;have nn:∀ k∈ss,∃ t∈l,k=((t.1:Int),(t.2:Int)):=λ k hk=>by obtain⟨z,hz,rfl⟩:=aE.mp (pm.mem_iff.mp hk);obtain⟨t,ht,rfl⟩:=aE.mp ((mem z).mp hz);exact⟨t,ht,rfl⟩
  have es:ss=(ss.map λ k=>(k.1.toNat,k.2.toNat)).map λ t=>((t.1:Int),(t.2:Int)):=by
   rw[aU];conv=>lhs;rw[<-cY ss]
   refine bR λ k hk=>?_;obtain⟨t,ht,rfl⟩:=nn k hk;simp
  have e5:ss.map (λ k=>(k.1.toNat,k.2.toNat))=ssP l:=by
   refine vC ?_ λ t=>?_
   ·rw[bq];refine st.imp_of_mem λ{a b} ha hb h=>?_;obtain⟨t,_,rfl⟩:=nn a ha;obtain⟨u,_,rfl⟩:=nn b hb;rw[Tb.pj]at h;rw[lz];simp only[cg];lia
   ·rw[aE]
    constructor
    ·rintro⟨k,hk,rfl⟩;obtain⟨t,ht,rfl⟩:=nn k hk;simpa using ht
    ·intro ht;refine⟨((t.1:Int),(t.2:Int)),pm.mem_iff.mpr (aE.mpr ⟨[(t.1:Int),(t.2:Int)],(mem _).mpr (aE.mpr ⟨t,ht,rfl⟩),rfl⟩),by simp⟩
  refine q _ _ ((s1.trans s2).trans (g6.upd hp)) (.lst gZ ?_);rw[es,aU,e5]at tu;exact(zW tu).ext (g6.upd hp)
def Pp (x y:Dt):gJ Dt:=(tR x).bind λ a=>(tR y).bind λ b=>(yZ a).bind λ l=>(yZ b).bind λ m=>My (.bl (!decide (l=m)))
theorem L4:∀ (l m:gN),ng (l.map hJ) (m.map hJ)=decide (l=m):=by
 intro l;induction l with
 | nil=>intro m;cases m<;>simp[ng]
 | cons n r ih =>
  intro m;cases m with
  | nil=>simp[ng]
  | cons k t =>rw[aI,aI,ng,ih t,CI,bJ];simp
theorem L5:∀ (l m:gN),AQ (l.map hJ) (m.map hJ)=U6:=by
 intro l;induction l with
 | nil=>intro m;rfl
 | cons n r ih =>
  intro m;cases m with
  | nil=>rfl
  | cons k t=>rw[aI,aI,AQ,ih t];rfl
theorem Rz (hu:X.A.units+2<cLine):OpR X (compareOp .NotEq) (rD X.K Pp):=by
 intro pins s σ H x y v u Q I rx ry hz;obtain⟨d,d',r,i,i',e,q⟩:=hz;obtain⟨a,e1,f1⟩:=gU e;obtain⟨b,e2,f2⟩:=gU f1;obtain⟨l,e3,f3⟩:=gU f2;obtain⟨m,e4,f4⟩:=gU f3;obtain rfl:=kP e1;obtain rfl:=kP e2;obtain rfl:=nO e3;obtain rfl:=nO e4;clear e f1 f2 f3 e1 e2 e3 e4;cases f4;obtain⟨p,xs,rfl,hp,is⟩:=i.lst_inv;obtain⟨p',ys,rfl,hq,js⟩:=i'.lst_inv;cases rx;cases ry;obtain⟨its,rv,t1,_⟩:=I.list (SqL.of hp);obtain⟨its',rv',t2,_⟩:=I.list (SqL.of hq);have l1:its.length=l.length:=by rw[<-rv.length,is.length,ah]
 have l2:its'.length=m.length:=by rw[<-rv'.length,js.length,ah]
 by_cases hl:l.length=m.length
 ·have hsz:its.toArray.size=its'.toArray.size:=by rw[ar,ar,l1,l2,hl]
  have:=RcNeAt.lists (A:=X.A) (s:=s) (l:=p) (b:=p') (items:=its.toArray) (items2:=its'.toArray) (e:=eAt (l.map hJ) (m.map hJ)) t1.isList t2.isList hsz (by lia) (rF is js rv rv' λ h1 h2 i1 i2 r1 r2=>Fg I (by show X.A.units+1<cLine;lia) (tM (L5 l m) h1 h2) i1 i2 r1 r2);have ea:=oW is js rv rv';rw[hsz,Nat.min_self,beq_self_eq_true,eg,L4]at ea;rw[hsz,ea]at this;exact this X.prog X.w X.xe _ ⟨.bl _,H,I,rfl,q _ H (g6.refl H) (.bl _)⟩
 ·have:=RcNeAt.lists_lengths (A:=X.A) (s:=s) (l:=p) (b:=p') (items:=its.toArray) (items2:=its'.toArray) t1.isList t2.isList (by rw[ar,ar,l1,l2];simpa using hl) (by lia);have ne:decide (l=m)=U7:=decide_eq_false λ z=>hl (by rw[z]);rw[ne]at q;exact this X.prog X.w X.xe _ ⟨.bl _,H,I,rfl,q _ H (g6.refl H) (.bl _)⟩
def Pq (x y:Dt):gJ Dt:=(tR x).bind λ a=>(tR y).bind λ b=>(mM a).bind λ l=>(mM b).bind λ m=>My (.bl (decide (l=m)))
theorem RA (hu:X.A.units+2<cLine):OpR X (compareOp .Eq) (rD X.K Pq):=by
 intro pins s σ H x y v u Q I rx ry hz;obtain⟨d,d',r,i,i',e,q⟩:=hz;obtain⟨a,e1,f1⟩:=gU e;obtain⟨b,e2,f2⟩:=gU f1;obtain⟨l,e3,f3⟩:=gU f2;obtain⟨m,e4,f4⟩:=gU f3;obtain rfl:=kP e1;obtain rfl:=kP e2;obtain rfl:=mz e3;obtain rfl:=mz e4;clear e f1 f2 f3 e1 e2 e3 e4;cases f4;obtain⟨p,xs,rfl,hp,is⟩:=i.lst_inv;obtain⟨p',ys,rfl,hq,js⟩:=i'.lst_inv;cases rx;cases ry;obtain⟨its,rv,t1,_⟩:=I.list (SqL.of hp);obtain⟨its',rv',t2,_⟩:=I.list (SqL.of hq);have l1:its.length=l.length:=by rw[<-rv.length,is.length,ah]
 have l2:its'.length=m.length:=by rw[<-rv'.length,js.length,ah]
 by_cases hl:l.length=m.length
 ·have hsz:its.toArray.size=its'.toArray.size:=by rw[ar,ar,l1,l2,hl]
  have:=RcAt.lists (A:=X.A) (s:=s) (l:=p) (b:=p') (items:=its.toArray) (items2:=its'.toArray) (e:=eAt (l.map .int) (m.map .int)) t1.isList t2.isList hsz (by lia) (rF is js rv rv' λ h1 h2 i1 i2 r1 r2=>Fe (tL (GI l m) h1 h2) i1 i2 r1 r2);have ea:=oW is js rv rv';rw[hsz,Nat.min_self,beq_self_eq_true,eg,GJ]at ea;rw[hsz,ea]at this;exact this X.prog X.w X.xe _ ⟨.bl _,H,I,rfl,q _ H (g6.refl H) (.bl _)⟩
 ·have:=RcAt.lists_lengths (A:=X.A) (s:=s) (l:=p) (b:=p') (items:=its.toArray) (items2:=its'.toArray) t1.isList t2.isList (by rw[ar,ar,l1,l2];simpa using hl) (by lia);have ne:decide (l=m)=U7:=decide_eq_false λ z=>hl (by rw[z]);rw[ne]at q;exact this X.prog X.w X.xe _ ⟨.bl _,H,I,rfl,q _ H (g6.refl H) (.bl _)⟩
end
section
variable {X:Cx}{a k:Expr}{pos p2:Pos}
theorem yc {K:gK}{H:Hp}:∀ {vs:List V} {ds:List Dt},Iss K H vs ds->∀ k,Iss K H (vs.drop k) (ds.drop k)
 | _,_,i,0=>by rw[List.drop_zero,List.drop_zero];exact i
 | _,_,.nil,_+1=>.nil
 | _,_,.cons i is,k+1=>yc is k
theorem GS (xs:List V)(k:Nat):vP xs (My (k:Int)) U5=xs.drop k:=by
 unfold vP;rw[HT.w_,HT.og];by_cases h:k<=xs.length
 ·rw[fL h,d_ (by rw[cw];exact aw _)]
 ·rw[fC (by lia),Nat.sub_self,List.take_zero,List.drop_eq_nil_of_le (by lia)]
def dTk:Dt->Dt->gJ Dt
 | .tup ds,.int i=>if 0<=i then My (.tup (ds.take i.toNat)) else U5
 | _,_=>U5
def dDp:Dt->Dt->gJ Dt
 | .tup ds,.int i=>if 0<=i then My (.tup (ds.drop i.toNat)) else U5
 | _,_=>U5
theorem nA {ga gk:DE->gJ Dt}(ha:PD X a ga)(hk:PD X k gk):PD X (.Subscript a (.Slice U5 (My k) U5 p2) pos) (g_ dTk ga gk) :=
 (xa (Dz.or A_) ha Ar (As hk)).of λ σ H Q hz1=>by
  obtain⟨δ,d,S,e,q⟩:=hz1;obtain⟨x,e1,e2⟩:=gU e;obtain⟨y,e3,e4⟩:=gU e2;match x,y,e4 with
  | .tup ds,.int i,e4 =>
   by_cases h0:0<=i
   rotate_left
   ·exact absurd ((au h0).symm.trans e4) (λ z=>by cases z)
   have e4:My (Dt.tup (ds.take i.toNat))=My d:=(ai h0).symm.trans e4;cases e4;obtain⟨n,rfl⟩:∃ n:Nat,i=n:=⟨i.toNat,by lia⟩;refine⟨δ,_,S,e1,λ v H1 s1 i1=>⟨δ,_,S.ext s1,e3,λ v2 H2 s2 i2=>?_⟩⟩;rw[i2.int_inv];obtain⟨p,xs,rfl,hp,is⟩:=(i1.ext s2).iI;refine⟨n,rfl,?_⟩;rw[cg]at q;by_cases c:xs.length<=n
   ·refine .inr ⟨p,xs,rfl,hp,⟨rfl,by rw[HT.og];lia⟩,q _ _ (s1.trans s2) (.tup hp ?_)⟩;have:=xZ is n;rw[d_ c]at this;exact this
   ·refine .inl ⟨p,xs,rfl,hp,?_,λ p' hp'=>?_⟩
    ·rintro⟨_,z⟩;rw[HT.og]at z;lia
    ·refine q _ _ ((s1.trans s2).trans (g6.upd hp')) (.tup (SqT.of gZ) ?_);rw[GH];exact(xZ is n).ext (g6.upd hp')
theorem ou {ga gk:DE->gJ Dt}(ha:PD X a ga)(hk:PD X k gk):PD X (.Subscript a (.Slice (My k) U5 U5 p2) pos) (g_ dDp ga gk) :=
 (xa (Dz.or A_) ha (As hk) Ar).of λ σ H Q hz1=>by
  obtain⟨δ,d,S,e,q⟩:=hz1;obtain⟨x,e1,e2⟩:=gU e;obtain⟨y,e3,e4⟩:=gU e2;match x,y,e4 with
  | .tup ds,.int i,e4 =>
   by_cases h0:0<=i
   rotate_left
   ·exact absurd ((au h0).symm.trans e4) (λ z=>by cases z)
   have e4:My (Dt.tup (ds.drop i.toNat))=My d:=(ai h0).symm.trans e4;cases e4;obtain⟨n,rfl⟩:∃ n:Nat,i=n:=⟨i.toNat,by lia⟩;refine⟨δ,_,S,e1,λ v H1 s1 i1=>⟨δ,_,S.ext s1,e3,λ v2 H2 s2 i2=>?_⟩⟩;rw[i2.int_inv];obtain⟨p,xs,rfl,hp,is⟩:=(i1.ext s2).iI;refine⟨n,rfl,?_⟩;rw[cg]at q;by_cases c:n=0\/xs=[]
   ·refine .inr ⟨p,xs,rfl,hp,⟨by rw[HT.og];rcases c with rfl | rfl<;>simp,rfl⟩,q _ _ (s1.trans s2) (.tup hp ?_)⟩
    have:=yc is n;have e:xs.drop n=xs:=by rcases c with rfl | rfl<;>simp
    rw[e]at this;exact this
   ·refine .inl ⟨p,xs,rfl,hp,?_,λ p' hp'=>?_⟩
    ·rintro⟨z,_⟩
     rw[HT.og]at z;have:xs.length=0\/n=0:=by lia
     rcases this with h | h
     ·exact c (.inr (d8 h))
     ·exact c (.inl h)
    ·refine q _ _ ((s1.trans s2).trans (g6.upd hp')) (.tup (SqT.of gZ) ?_);rw[GS];exact(yc is n).ext (g6.upd hp')
def RB (K:gK):R2:=λ x y H Q=>∃ a b ys,x=.ref a/\y=.ref b/\SqT K H a []/\SqT K H b ys/\Q (.ref b) H
theorem L6:OpR X (binaryOp .Add) (RB X.K):=by
 intro pins s σ H x y v u Q I rx ry h;obtain⟨a,b,ys,rfl,rfl,ha,hb,q⟩:=h;cases rx;cases ry;obtain⟨its,r1,⟨⟨cls,dd,data,sl⟩,ho,hc,n,hd⟩,_⟩:=I.tuple ha;obtain⟨its2,r2,⟨⟨cls2,dd2,data2,sl2⟩,ho2,hc2,n2,hd2⟩,_⟩:=I.tuple hb;cases r1;simp only at hc hd hc2 hd2;subst hc hd hc2 hd2;exact concat_meets ⟨_,ho,rfl⟩ ⟨_,ho2,rfl⟩ noFill_tuple_add seq_tuple_add fc eY (eO _ _)
  (tuple_addW0 a b _ its2.toArray n n2 dd dd2 sl sl2 rfl) ⟨ho,ho2,⟨.ref b,H,I,rfl,q⟩⟩
def lh (x y:Dt):gJ Dt:=(Ck x).bind λ ds=>(Ck y).bind λ es=>if ds.length+es.length<=1000 then My (.tup (ds++es)) else U5
theorem lu:OpR X (binaryOp .Add) (rD X.K lh):=by
 intro pins s σ H x y v u Q I rx ry hz;obtain⟨d,d',r,i,i',e,q⟩:=hz;obtain⟨ds,e1,f1⟩:=gU e;obtain⟨es,e2,f2⟩:=gU f1;obtain rfl:=nN e1;obtain rfl:=nN e2;by_cases hc:ds.length+es.length<=1000
 rotate_left
 ·rw[au hc]at f2;cases f2
 rw[ai hc]at f2;cases f2;obtain⟨p,xs,rfl,hp,is⟩:=i.iI;obtain⟨p',ys,rfl,hq,js⟩:=i'.iI;by_cases h0:xs=[]
 ·subst h0;cases is;exact L6 pins s σ H _ _ v u Q I rx ry ⟨p,p',ys,rfl,rfl,hp,hq,q _ H (g6.refl H) i'⟩
 ·refine KD pins s σ H _ _ v u Q I rx ry ⟨p,p',xs,ys,rfl,rfl,hp,hq,h0,rE (by rw[is.length,js.length];exact hc),λ h=>?_,λ _ p2 hp2=>?_⟩
  ·subst h;cases js;rw[bB]at q;exact q _ H (g6.refl H) i
  ·exact q _ _ (g6.upd hp2) (.tup (SqT.of gZ) ((is.append js).ext (g6.upd hp2)))
end
end L2
namespace L2
open PySem PySem.Spec PyProof.Rows Zp Qs
def mS (F:List Nat)(t:Nat×Nat):List Nat:=if t.1∈F\/t.2∈F then F++[t.1,t.2].filter λ x=>!decide (x∈F) else F
def qx (l:gN)(F:List Nat):List Nat:=l.foldl mS F
def ow (l:gN):Nat->List Nat->List Nat
 | 0,F=>F
 | n+1,F=>ow l n (qx l F)
def Clo (l:gN)(F:List Nat):Prop:=∀ t∈l,t.1∈F↔t.2∈F
theorem zX (F:List Nat)(t:Nat×Nat):∃ r,mS F t=F++r:=by
 unfold mS;split
 ·exact⟨_,rfl⟩
 ·exact⟨[],(bB F).symm⟩
theorem uq:∀ (l:gN) (F:List Nat),∃ r,qx l F=F++r
 | [],F=>⟨[],(bB F).symm⟩
 | t::l,F=>by obtain⟨r1,e1⟩:=zX F t;obtain⟨r2,e2⟩:=uq l (mS F t);exact⟨r1++r2,by show qx l (mS F t)=_;rw[e2,e1,cy]⟩
theorem yd {F:List Nat}{t:Nat×Nat}:mS F t=F↔(t.1∈F↔t.2∈F):=by unfold mS;by_cases h1:t.1∈F<;>by_cases h2:t.2∈F<;>simp[h1,h2]
theorem rQ:∀ {l:gN} {F:List Nat},qx l F=F↔Clo l F
 | [],F=>⟨λ _ t h=>(nomatch h),λ _=>rfl⟩
 | t::l,F=>by
  constructor
  ·intro h
   obtain⟨r1,e1⟩:=zX F t;obtain⟨r2,e2⟩:=uq l (mS F t);have h:qx l (mS F t)=F:=h;have e3:F++(r1++r2)=F:=by rw[<-cy,<-e1,<-e2,h]
   have e4:r1++r2=[]:=by simpa using e3
   have e5:r1=[]:=(List.append_eq_nil_iff.mp e4).1;rw[e5,bB]at e1;rw[e1]at h;intro u hu;rcases aD.mp hu with rfl | hu
   ·exact yd.mp e1
   ·exact rQ.mp h u hu
  ·intro h;have e1:=yd.mpr (h t aB);show qx l (mS F t)=F;rw[e1];exact rQ.mpr λ u hu=>h u (ay _ hu)
theorem zY {l:gN}{F:List Nat}(h:Clo l F):∀ k,ow l k F=F
 | 0=>rfl
 | k+1=>by show ow l k (qx l F)=F;rw[rQ.mpr h,zY h k]
theorem ye {l:gN}:∀ (k:Nat) (F:List Nat),Clo l (ow l k F)\/F.length+k<=(ow l k F).length
 | 0,F=>.inr (aw _)
 | k+1,F=>by
  by_cases c:qx l F=F
  ·left;have:=rQ.mp c;show Clo l (ow l k (qx l F));rw[c,zY this];exact this
  ·obtain⟨r,e⟩:=uq l F
   have:1<=r.length:=by
    cases r with
    | nil=>rw[bB]at e;exact absurd e c
    | cons _ _=>simp
   have le:F.length+1<=(qx l F).length:=by rw[e,aK];lia
   rcases ye k (qx l F) with h | h
   ·exact .inl h
   ·right;show _<=(ow l k (qx l F)).length;lia
theorem CZ {F:List Nat}{t:Nat×Nat}(h:F.Nodup)(ne:t.1≠t.2):(mS F t).Nodup:=by
 unfold mS;split
 ·refine List.nodup_append.mpr ⟨h,?_,λ a ha b hb e=>?_⟩
  ·exact fG _ (bC.mpr ⟨by simpa using ne,by simp⟩)
  ·have:=(bH.mp hb).2;simp at this;exact this (e▸ha)
 ·exact h
set_option tactic.hygienic true in
theorem C0 {F:List Nat}{t:Nat×Nat}{S:Nat->Prop}(h:∀ x∈F,S x)(ht:S t.1↔S t.2):∀ x∈mS F t,S x:=by
 unfold mS;split
 ·rename_i c
  intro x hx;rcases a_.mp hx with hx | hx
  ·exact h x hx
  ·have:=(bH.mp hx).1
   have both:S t.1/\S t.2:=by
    rcases c with c | c
    ·exact⟨h _ c,ht.mp (h _ c)⟩
    ·exact⟨ht.mpr (h _ c),h _ c⟩
   simp at this;rcases this with rfl | rfl
   ·exact both.1
   ·exact both.2
 ·exact h
theorem Bi:∀ {l:gN} {F:List Nat},F.Nodup->(∀ t∈l,t.1≠t.2)->(qx l F).Nodup
 | [],F,h,_=>h
 | t::l,F,h,ne=>Bi (l:=l) (CZ h (ne t aB)) λ u hu=>ne u (ay _ hu)
theorem Bj {S:Nat->Prop}:∀ {l:gN} {F:List Nat},(∀ x∈F,S x)->(∀ t∈l,S t.1↔S t.2)->∀ x∈qx l F,S x
 | [],F,h,_=>h
 | t::l,F,h,ht=>Bj (l:=l) (C0 h (ht t aB)) λ u hu=>ht u (ay _ hu)
theorem C1 {l:gN}(ne:∀ t∈l,t.1≠t.2):∀ (k:Nat) {F:List Nat},F.Nodup->(ow l k F).Nodup
 | 0,_,h=>h
 | k+1,_,h=>C1 ne k (Bi h ne)
theorem yf {l:gN}{S:Nat->Prop}(ht:∀ t∈l,S t.1↔S t.2):∀ (k:Nat) {F:List Nat},(∀ x∈F,S x)->∀ x∈ow l k F,S x
 | 0,_,h=>h
 | k+1,_,h=>yf ht k (Bj h ht)
theorem zZ {l:gN}:∀ (k:Nat) (F:List Nat),∃ r,ow l k F=F++r
 | 0,F=>⟨[],(bB F).symm⟩
 | k+1,F=>by obtain⟨r1,e1⟩:=uq l F;obtain⟨r2,e2⟩:=zZ k (qx l F);exact⟨r1++r2,by show ow l k (qx l F)=_;rw[e2,e1,cy]⟩
def o7 (l:gN)(n p:Nat):List Nat:=ow l n [p]
section
variable {l:gN}{n p:Nat}(ok:∀ t∈l,t.1<t.2/\t.2<n)(hp:p<n)
include ok hp
theorem Jz:(o7 l n p).Nodup:=C1 (λ t ht=>by have:=ok t ht;lia) n (by simp)
theorem JA:∀ x∈o7 l n p,x<n:=yf (S:=λ x=>x<n) (λ t ht=>by have:=ok t ht;constructor<;>(intro _;lia)) n (by simpa using hp)
omit ok hp in
theorem JB:p∈o7 l n p:=by obtain⟨r,e⟩:=zZ (l:=l) n [p];show p∈ow l n [p];rw[e];simp
theorem FI:(o7 l n p).length<=n:=by have:=aL (Jz ok hp) (l₂:=U8 n) λ x hx=>aC.mpr (JA ok hp x hx);simpa using this
theorem L7:Clo l (o7 l n p):=by
 rcases ye (l:=l) n [p] with h | h
 ·exact h
 ·have:=FI ok hp;have h:1+n<=(o7 l n p).length:=h;lia
omit ok hp in
theorem Pr {S:Nat->Prop}(ht:∀ t∈l,S t.1↔S t.2)(h0:S p):∀ x∈o7 l n p,S x:=yf ht n (by simpa using h0)
end
abbrev kB:=jV
abbrev lD:=nH
def jv:DE->gJ RD:=(jc (sF (tK (lP (gTr (iM lC (gP (gT 1) (gP (gC (.ty "tuple")) gS))))) (tK (gB (g_ vT (iM pE (gP (gT 1) gS)) (gC (.int 2)))) (lP (gTr (iM xD (gP (gLC ["_law_one"] [] (gI jE (gT 1)) (ggN 0) jd (hG 1 kB (gP (gT 0) gS))) gS)))))) (kc (gC (.bl U7))) mL) (kc (Bd (dIB λ i j=>decide (i<=j)) (dIB λ i j=>decide (i<j)) (dIB λ i j=>decide (i<j)) (gC (.int 0)) (g_ dIx (gT 1) (gC (.int 0))) (g_ dIx (gT 1) (gC (.int 1))) (gT 0))))
abbrev zh:List Str:=["_law_many","_law_thing"]
theorem JC {d:Dt}(h:kdB d=U6):kB [d]=My (.bl (whB d)):=by obtain⟨k,e⟩:=qX h;show((mQ d).map λ _=>Dt.bl (whB d))=_;rw[e];rfl
set_option tactic.hygienic true in
theorem yg:Hg 2 zh lD jv:=by
 intro ds d hl h;obtain⟨m,x,rfl,h1⟩:=qP h;obtain⟨n,e0,h2⟩:=gU h1;clear h h1;by_cases hx:kT x=U6
 rotate_left
 ·rw[au hx]at h2;cases h2
 rw[ai hx]at h2;cases h2;rw[ly e0];refine⟨.rt (.bl (jN n x)),?_,rfl⟩;match x,hx with
 | .tup [a,b],hx =>
  have ka:kdB a=U6:=by simp[kT]at hx;exact hx.1
  have kb:kdB b=U6:=by simp[kT]at hx;exact hx.2
  have wa:=JC ka;have wb:=JC kb;have iT:lC [.tup [a,b],.ty "tuple"]=My (.bl U6):=rfl;have ln:pE [.tup [a,b]]=My (.int 2):=rfl;have lc:rX (ggN 0) jd (hG 1 kB (gP (gT 0) gS)) [U5] [a,b]=My [.bl (whB a),.bl (whB b)]:=by
   have:=jo (enc:=id) (gg:=ggN 0) (ge:=hG 1 kB (gP (gT 0) gS)) (δc:=[U5]) (δa:=λ d=>[My d]) (enc':=λ d=>.bl (whB d)) [a,b] λ d hd=>⟨rfl,by
    rcases aD.mp hd with rfl | hd
    ·simp[wa]
    ·rw[bp.mp hd];simp[wb]⟩
   exact this
  have al:xD [.lst [.bl (whB a),.bl (whB b)]]=My (.bl (whB a&&whB b)):=by show My (Dt.bl (whB a&&(whB b&&U6)))=_;rw[eg]
  show jv [My (.int n),My (.tup [a,b])]=_;by_cases c:(whB a&&whB b)=U6
  ·rw[c]at al
   rw[aP]at c;cases a<;>first | (cases c.1;done) | skip
   cases b<;>first | (cases c.2;done) | skip
   rename_i i j;have i0:dIx (.tup [.int i,.int j]) (.int 0)=My (.int i):=rfl;have i1:dIx (.tup [.int i,.int j]) (.int 1)=My (.int j):=rfl;have e:jN n (.tup [.int i,.int j])=decide (0<=i/\i<j/\j<n):=rfl;rw[e];by_cases c1:0<=i
   ·by_cases c2:i<j
    ·by_cases c3:j<n<;>simp[jv,iT,ln,lc,al,i0,i1,c1,c2,c3]
    ·simp[jv,iT,ln,lc,al,i0,i1,c1,c2]
   ·simp[jv,iT,ln,lc,al,i0,i1,c1]
  ·have e:jN n (.tup [a,b])=U7:=by
    cases a<;>first | rfl | skip
    cases b<;>first | rfl | skip
    exact absurd rfl c
   rw[bx]at c;rw[c]at al;rw[e];simp[jv,iT,ln,lc,al]
 | .tup [],_=>rfl
 | .tup [a],_=>cases a<;>rfl
 | .tup (a::b::c::r),hx =>
  have iT:lC [.tup (a::b::c::r),.ty "tuple"]=My (.bl U6):=rfl;have ln:pE [.tup (a::b::c::r)]=My (.int ((r.length:Int)+3)):=by show My (Dt.int (((a::b::c::r).length:Nat):Int))=_;simp;lia
  have ne:¬ ((r.length:Int)+3=2):=by lia
  have e:jN n (.tup (a::b::c::r))=U7:=by cases a<;>first | rfl | (cases b<;>rfl)
  rw[e];show jv [My (.int n),My (.tup (a::b::c::r))]=_;generalize (r.length:Int)+3=z,Dt.tup (a::b::c::r)=t at *;simp[jv,iT,ln,ne]
 | .non,_=>rfl
 | .bl _,_=>rfl
 | .int _,_=>rfl
 | .str _,_=>rfl
 | .lst _,_=>rfl
 | .dct _,_=>rfl
theorem nV {g g':DE->gJ RD}{δ δ':DE}(h:g δ=My (.nx δ')):jc g g' δ=g' δ':=by unfold jc;rw[h];rfl
def mB:DE->gJ RD:=(sF (tK (gB (g_ (dIn U7) (gT 5) (gT 3))) (gB (g_ (dIn U7) (gT 6) (gT 3)))) (jB 3 (g_ rZ (gT 3) (gLC ["_law_place"] [3] (gI jE (iX (gP (gT 5) (gP (gT 6) gS)))) (ggN 0) (gB (g_ (dIn U6) (gT 0) (gT 1))) (gT 0)))) mL)
def pU:DE->gJ RD:=(jc (jB 3 (lQ (gP (gT 2) gS))) (jc (rY (jJ (gP (gT 0) gS)) (ggN 4) (rY (gI jE (gT 1)) (nc 5 6) mB)) (kc (iM (tS srt) (gP (gT 3) gS)))))
abbrev Et:List Str:=["_law_many","_law_ties","_law_first","_law_found","_law_turn","_law_one","_law_other"]
def pV:List Dt->gJ Dt
 | [x,y,z]=>(jU x).bind λ n=>(dTs y).bind λ l=>(jU z).bind λ p=>if (n<=8/\p<n)/\(l.length<=1000/\∀ t∈l,t.1<t.2/\t.2<n) then My (.lst ((srt ((o7 l n p).map λ(k:Nat)=>(k:Int))).map .int)) else U5
 | _=>U5
theorem yh (neg:Bool)(k:Nat)(l:List Nat):dIn neg (gR k) (.lst (l.map gR))=My (.bl (if neg then !decide (k∈l) else decide (k∈l))):=LC neg k l
theorem RC {F:List Nat}{a b:Nat}(hF:F.length<=900)(x0 x1 x2 x4:gJ Dt):mB [x0,x1,x2,My (.lst (F.map gR)),x4,My (gR a),My (gR b)]=My (.nx [x0,x1,x2,My (.lst ((mS F (a,b)).map gR)),x4,My (gR a),My (gR b)]):=by
 have ia:=yh U7 a F;have ib:=yh U7 b F;rw[au ax]at ia ib;have lc:=lR (enc:=gR) (gg:=ggN 0) (gt:=gB (g_ (dIn U6) (gT 0) (gT 1))) (ge:=gT 0) (δc:=[U5,My (.lst (F.map gR))]) (δa:=λ k=>[My (gR k),My (.lst (F.map gR))]) (p:=λ x=>!decide (x∈F)) (enc':=gR) [a,b] λ k _=>⟨rfl,by have:=yh U6 k F;rw[ai rfl]at this;generalize gR k=nk,Dt.lst (F.map gR)=fl at *;simp[this],λ _=>rfl⟩
 have lc:rX (ggN 0) (gB (g_ (dIn U6) (gT 0) (gT 1))) (gT 0) [U5,My (.lst (F.map gR))] [gR a,gR b]=My (([a,b].filter λ x=>!decide (x∈F)).map gR):=lc;have le:([a,b].filter λ x=>!decide (x∈F)).length<=2:=dB _ _;have ct:rZ (.lst (F.map gR)) (.lst (([a,b].filter λ x=>!decide (x∈F)).map gR))=My (.lst ((F++[a,b].filter λ x=>!decide (x∈F)).map gR)):=by show(if (F.map gR).length+(([a,b].filter λ x=>!decide (x∈F)).map gR).length<=1000 then My (Dt.lst (F.map gR++([a,b].filter λ x=>!decide (x∈F)).map gR)) else U5)=_;rw[ai (by rw[ah,ah];lia),bu]
 unfold mS;by_cases c:a∈F\/b∈F
 ·rw[ai c]
  generalize gR b=nb,gR a=na,Dt.lst (F.map gR)=fl,([a,b].filter λ x=>!decide (x∈F)).map gR=r2,Dt.lst ((F++[a,b].filter λ x=>!decide (x∈F)).map gR)=r at *;by_cases c1:a∈F
  ·rw[decide_eq_true c1]at ia;simp[mB,ia,lc,ct]
  ·have c2:b∈F:=c.resolve_left c1;rw[decide_eq_false c1]at ia;rw[decide_eq_true c2]at ib;simp[mB,ia,ib,lc,ct]
 ·rw[au c];have c1:a∉F:=λ z=>c (.inl z);have c2:b∉F:=λ z=>c (.inr z);rw[decide_eq_false c1]at ia;rw[decide_eq_false c2]at ib;generalize gR b=nb,gR a=na,Dt.lst (F.map gR)=fl at *;simp[mB,ia,ib]
theorem Pt {F:List Nat}{n:Nat}(h:F.Nodup)(hl:∀ x∈F,x<n):F.length<=n:=by have:=aL h (l₂:=U8 n) λ x hx=>aC.mpr (hl x hx);simpa using this
theorem z0 {n:Nat}(h8:n<=8)(x0 x1 x2 x4:gJ Dt):∀ (ts:gN) (F:List Nat) (x5 x6:gJ Dt),(∀ t∈ts,t.1<t.2/\t.2<n)->F.Nodup->(∀ x∈F,x<n) ->
  ∃ y5 y6,kO (nc 5 6) mB [x0,x1,x2,My (.lst (F.map gR)),x4,x5,x6] (ts.map hJ)=My (.nx [x0,x1,x2,My (.lst ((qx ts F).map gR)),x4,y5,y6])
 | [],F,x5,x6,_,_,_=>⟨x5,x6,rfl⟩
 | t::ts,F,x5,x6,ok,nd,lt=>by have st:=RC (F:=F) (a:=t.1) (b:=t.2) (by have:=Pt nd lt;lia) x0 x1 x2 x4;have o1:=ok t aB;obtain⟨y5,y6,ih⟩:=z0 h8 x0 x1 x2 x4 ts (mS F t) (My (gR t.1)) (My (gR t.2)) (λ u hu=>ok u (ay _ hu)) (CZ nd (by lia)) (C0 (S:=λ x=>x<n) lt (by constructor<;>(intro _;lia)));refine⟨y5,y6,?_⟩;rw[aI,kO];show(mB [x0,x1,x2,My (.lst (F.map gR)),x4,My (gR t.1),My (gR t.2)]).bind _=_;rw[st,ak];exact ih
theorem z3 {n:Nat}(h8:n<=8){l:gN}(ok:∀ t∈l,t.1<t.2/\t.2<n)(y:Dt)(hy:jE y=My (l.map hJ))(hl:l.length<=1000)(x0 x2:gJ Dt):∀ (ks:List Nat) (F:List Nat) (x4 x5 x6:gJ Dt),F.Nodup->(∀ x∈F,x<n) ->
  ∃ y4 y5 y6,kO (ggN 4) (rY (gI jE (gT 1)) (nc 5 6) mB) [x0,My y,x2,My (.lst (F.map gR)),x4,x5,x6] (ks.map gR)=My (.nx [x0,My y,x2,My (.lst ((ow l ks.length F).map gR)),y4,y5,y6])
 | [],F,x4,x5,x6,_,_=>⟨x4,x5,x6,rfl⟩
 | k::ks,F,x4,x5,x6,nd,lt=>by obtain⟨z5,z6,st⟩:=z0 h8 x0 (My y) x2 (My (gR k)) l F x5 x6 ok nd lt;obtain⟨y4,y5,y6,ih⟩:=z3 h8 ok y hy hl x0 x2 ks (qx l F) (My (gR k)) z5 z6 (Bi nd λ t ht=>by have:=ok t ht;lia) (Bj (S:=λ x=>x<n) lt λ t ht=>by have:=ok t ht;constructor<;>(intro _;lia));refine⟨y4,y5,y6,?_⟩;rw[aI,kO];show(((My y).bind jE).bind λ ds=>kO (nc 5 6) mB [x0,My y,x2,My (.lst (F.map gR)),My (gR k),x5,x6] ds).bind _=_;rw[ak,hy,ak,st,ak];exact ih
theorem JD {R:List Nat}(h:R.length<64):tS srt [.lst (R.map gR)]=My (.lst ((srt (R.map λ(k:Nat)=>(k:Int))).map .int)):=by
 have e:R.map gR=(R.map λ(k:Nat)=>(k:Int)).map Dt.int:=by rw[aU];rfl
 show(if (R.map gR).length<64 then (mM (R.map gR)).map λ l=>Dt.lst ((srt l).map .int) else U5)=_;rw[ai (by rw[ah];exact h),e,nE];rfl
theorem GU {y:Dt}{l:gN}(h:dTs y=My l):jE y=My (l.map hJ):=by
 obtain⟨ds,e1,e2⟩:=gU h;rw[nO e2]at e1;cases y<;>first | (cases e1;done) | skip
 all_goals (cases e1;rfl)
theorem C2:Hg 3 Et pV pU:=by
 intro ds d hl h;match ds,h with
 | [x,y,z],h =>
  obtain⟨n,e1,h⟩:=gU (show(jU x).bind _=_ from h);obtain⟨l,e2,h⟩:=gU h;obtain⟨p,e3,h⟩:=gU h;by_cases hc:(n<=8/\p<n)/\(l.length<=1000/\∀ t∈l,t.1<t.2/\t.2<n)
  rotate_left
  ·rw[au hc]at h;cases h
  rw[ai hc]at h;cases h;obtain⟨⟨h8,hp⟩,hl,ok⟩:=hc;rw[ju e1,ju e3];have r1:oE [gR n]=My ((U8 n).map gR):=jF (n:=n) (by lia);obtain⟨y4,y5,y6,lp⟩:=z3 h8 ok y (GU e2) hl (My (gR n)) (My (gR p)) (U8 n) [p] U5 U5 U5 (by simp) (by simpa using hp);rw[cJ]at lp;have sr:=JD (R:=o7 l n p) (by have:=FI ok hp;lia);refine⟨.rt (.lst ((srt ((o7 l n p).map λ(k:Nat)=>(k:Int))).map .int)),?_,rfl⟩;show pU [My (gR n),My y,My (gR p),U5,U5,U5,U5]=_;have lp:kO (ggN 4) (rY (gI jE (gT 1)) (nc 5 6) mB) [My (gR n),My y,My (gR p),My (.lst [gR p]),U5,U5,U5] ((U8 n).map gR)=My (.nx [My (gR n),My y,My (gR p),My (.lst ((o7 l n p).map gR)),y4,y5,y6]):=lp;generalize gR p=np,gR n=nn,(U8 n).map gR=rr,Dt.lst ((o7 l n p).map gR)=ff,Dt.lst ((srt ((o7 l n p).map λ(k:Nat)=>(k:Int))).map .int)=res at *;unfold pU;rw[nV (show jB 3 (lQ (gP (gT 2) gS)) [My nn,My y,My np,U5,U5,U5,U5]=My (.nx [My nn,My y,My np,My (.lst [np]),U5,U5,U5]) by simp)];rw[nV (δ':=[My nn,My y,My np,My ff,y4,y5,y6]) (by show(((gP (gT 0) gS) [My nn,My y,My np,My (.lst [np]),U5,U5,U5]).bind oE).bind _=_;rw[show(gP (gT 0) gS) [My nn,My y,My np,My (.lst [np]),U5,U5,U5]=My [nn] from rfl,ak,r1,ak];exact lp)];simp[sr]
theorem L_ {l m:List Int}(h:l.Perm m)(hs:l.Pairwise (·<=·)):l=srt m :=
 List.Perm.eq_of_pairwise (le:=λ a b:Int=>decide (a<=b)) (λ a b _ _ h1 h2=>by simp at h1 h2;lia) (hs.imp λ h=>by simpa using h) ((pG m).imp λ h=>by simpa using h) (h.trans (qQ m).symm)
theorem Bk (n:Nat):((U8 n).map λ(k:Nat)=>(k:Int)).Pairwise (·<=·):=by rw[bq];exact fh.imp λ h=>by lia
theorem JE {l m:List Nat}(h1:l.Nodup)(h2:m.Nodup)(h:∀ t,t∈l↔t∈m):l.Perm m:=by
 rw[List.perm_iff_count];intro a;by_cases c:a∈l
 ·rw[h1.count,h2.count,ai c,ai ((h a).mp c)]
 ·rw[h1.count,h2.count,au c,au λ z=>c ((h a).mpr z)]
theorem JF {l:gN}{n:Nat}(ok:∀ t∈l,t.1<t.2/\t.2<n)(h0:0<n):srt ((o7 l n 0).map λ(k:Nat)=>(k:Int))=(U8 n).map (λ(k:Nat)=>(k:Int))↔Rn l n:=by
 constructor
 ·intro h S s0 cl v hv
  refine Pr (l:=l) (n:=n) cl s0 v ?_;have:(v:Int)∈srt ((o7 l n 0).map λ(k:Nat)=>(k:Int)):=by rw[h];exact aE.mpr ⟨v,aC.mpr hv,rfl⟩
  obtain⟨k,hk,e⟩:=aE.mp ((qQ _).mem_iff.mp this);have:k=v:=by lia
  exact this▸hk
 ·intro h;symm;refine L_ ?_ (Bk n);refine(JE cZ (Jz ok h0) λ t=>?_).map _;rw[aC];exact⟨λ ht=>h (·∈o7 l n 0) JB (L7 ok h0) t ht,JA ok h0 t⟩
def shW:Dt->Bool
 | .tup [_,.tup ts]=>decide (ts.length<=40)
 | _=>U6
def mH:List Dt->gJ Dt:=sG λ x=>if okW x=U6/\shW x=U6 then My (.bl (kM x)) else U5
def jb:DE->gJ RD:=(jc (sF (tK (lP (gTr (iM lC (gP (gT 0) (gP (gC (.ty "tuple")) gS))))) (tK (gB (g_ vT (iM pE (gP (gT 0) gS)) (gC (.int 2)))) (tK (lP (gTr (hG 1 kB (gP (g_ dIx (gT 0) (gC (.int 0))) gS)))) (lP (gB (qL (dIB λ i j=>decide (i<=j)) (dIB λ i j=>decide (i<=j)) (gC (.int 2)) (g_ dIx (gT 0) (gC (.int 0))) (gC (.int 8)))))))) (kc (gC (.bl U7))) mL) (jc (sF (tK (lP (gTr (iM lC (gP (g_ dIx (gT 0) (gC (.int 1))) (gP (gC (.ty "tuple")) gS))))) (lP (gTr (iM xD (gP (gLC ["_law_tie"] [0] (gI jE (g_ dIx (gT 0) (gC (.int 1)))) (ggN 0) jd (hG 2 lD (gP (g_ dIx (gT 1) (gC (.int 0))) (gP (gT 0) gS)))) gS))))) (kc (gC (.bl U7))) mL) (jc (sF (gB (g_ Pp (iM pI (gP (g_ dIx (gT 0) (gC (.int 1))) gS)) (gUn dSS (g_ dIx (gT 0) (gC (.int 1)))))) (kc (gC (.bl U7))) mL) (kc (g_ Pq (hG 3 pV (gP (g_ dIx (gT 0) (gC (.int 0))) (gP (g_ dIx (gT 0) (gC (.int 1))) (gP (gC (.int 0)) gS)))) (gUn A5 (g_ dIx (gT 0) (gC (.int 0)))))))))
abbrev zi:List Str:=["_law_thing"]
theorem Pu (n:Int){d:Dt}(h:kT d=U6):lD [.int n,d]=My (.bl (jN n d)):=Jv n h
theorem yi:Hg 1 zi mH jb:=by
 intro ds d hl h;obtain⟨x,rfl,h1⟩:=kr h;clear h;by_cases hx:okW x=U6/\shW x=U6
 rotate_left
 ·rw[au hx]at h1;cases h1
 rw[ai hx]at h1;cases h1;obtain⟨hx,hs⟩:=hx;refine⟨.rt (.bl (kM x)),?_,rfl⟩;match x,hx,hs with
 | .tup [m,t],hx,hs =>
  show jb [My (.tup [m,t])]=_;have iT:lC [.tup [m,t],.ty "tuple"]=My (.bl U6):=rfl;have ln:pE [.tup [m,t]]=My (.int 2):=rfl;have i0:dIx (.tup [m,t]) (.int 0)=My m:=rfl;have i1:dIx (.tup [m,t]) (.int 1)=My t:=rfl;have km:kdB m=U6/\kdB t=U6:=by cases t<;>simp_all[okW,kdB,mQ]
  obtain⟨k2,ek2⟩:=qX km.2;have wm:=JC km.1;by_cases c1:whB m=U6
  rotate_left
  ·have e:kM (.tup [m,t])=U7:=by cases m<;>first | rfl | (exact absurd rfl c1)
   rw[bx]at c1;rw[c1]at wm;rw[e];generalize Dt.tup [m,t]=mt at *;simp[jb,iT,ln,i0,wm]
  rw[c1]at wm;obtain⟨n,rfl⟩:∃ n,m=.int n:=by cases m<;>first | exact⟨_,rfl⟩ | cases c1
  by_cases c2:2<=n/\n<=8
  rotate_left
  ·have e:kM (.tup [.int n,t])=U7:=by
    cases t<;>first | rfl | (simp[kM,c2])
   rw[e];generalize Dt.tup [.int n,t]=mt at *;by_cases c3:2<=n
   ·have c4:¬ n<=8:=λ z=>c2 ⟨c3,z⟩;simp[jb,iT,ln,i0,wm,c3,c4]
   ·simp[jb,iT,ln,i0,wm,c3]
  obtain⟨h2,h8⟩:=c2;by_cases c3:∃ ts,t=.tup ts
  rotate_left
  ·have e:kM (.tup [.int n,t])=U7:=by
    cases t<;>first | rfl | (exact absurd ⟨_,rfl⟩ c3)
   have iF:lC [t,.ty "tuple"]=My (.bl U7):=by cases t<;>first | rfl | (exact absurd ⟨_,rfl⟩ c3) | cases ek2
   rw[e];generalize Dt.tup [.int n,t]=mt at *;simp[jb,iT,ln,i0,i1,wm,h2,h8,iF]
  obtain⟨ts,rfl⟩:=c3;have ok:ts.length<=1000/\ts.all kT=U6:=by simpa [okW,kdB,mQ] using hx
  have h40:ts.length<=40:=by simpa [shW] using hs
  obtain⟨hlen,hk⟩:=ok;rw[bF]at hk;have iT2:lC [.tup ts,.ty "tuple"]=My (.bl U6):=rfl;have lc:=jo (enc:=id) (gg:=ggN 0) (ge:=hG 2 lD (gP (g_ dIx (gT 1) (gC (.int 0))) (gP (gT 0) gS))) (δc:=[U5,My (.tup [.int n,.tup ts])]) (δa:=λ d=>[My d,My (.tup [.int n,.tup ts])]) (enc':=λ d=>.bl (jN n d)) ts λ d hd=>⟨rfl,by have:=Pu n (hk d hd);generalize Dt.tup [.int n,.tup ts]=mt at *;simp[i0,this]⟩
  have e2:(ts.map λ d=>Dt.bl (jN n d))=(ts.map (jN n)).map Dt.bl:=by simp
  rw[cY,e2]at lc;have e3:(ts.map (jN n)).all id=ts.all (jN n):=by rw[fk];rfl
  have al:xD [.lst ((ts.map (jN n)).map Dt.bl)]=My (.bl (ts.all (jN n))):=by rw[<-e3];generalize ts.map (jN n)=bs;simp[xD,tR]
  by_cases c4:ts.all (jN n)=U6
  rotate_left
  ·have e:kM (.tup [.int n,.tup ts])=U7:=by
    rw[bx]at c4;simp[kM,c4]
   rw[bx]at c4;rw[c4]at al;rw[e];generalize Dt.tup [.int n,.tup ts]=mt,(ts.map (jN n)).map Dt.bl=bs at *;simp[jb,iT,ln,i0,i1,wm,h2,h8,iT2,lc,al,hlen]
  rw[c4]at al;obtain⟨et,ok⟩:=yb c4;have et':iK (ts.map iS)=.tup ts:=by show Dt.tup ((ts.map iS).map hJ)=_;rw[<-et]
  have lo:pI [.tup ts]=My (.lst ((ts.map iS).map hJ)):=by rw[<-et];rfl
  have ss:dSS (.tup ts)=My (.lst ((ssP (ts.map iS)).map hJ)):=by rw[<-et'];show(dTt (iK (ts.map iS))).bind (λ l=>if l.length<=40 then My (Dt.lst ((ssP l).map hJ)) else U5)=_;rw[wo,ak,ai (by rw[ah];exact h40)]
  have ne:Pp (.lst ((ts.map iS).map hJ)) (.lst ((ssP (ts.map iS)).map hJ))=My (.bl (!rise (ts.map iS))):=by show(yZ ((ts.map iS).map hJ)).bind (λ l=>(yZ ((ssP (ts.map iS)).map hJ)).bind λ m=>My (Dt.bl (!decide (l=m))))=_;rw[tW,tW,ak,ak];congr 3;rw[bJ,decide_eq_true_iff];exact LZ _
  by_cases c5:rise (ts.map iS)=U6
  rotate_left
  ·have e:kM (.tup [.int n,.tup ts])=U7:=by
    rw[bx]at c5;simp[kM,c5]
   rw[bx]at c5;rw[c5]at ne;rw[e];generalize Dt.tup [.int n,.tup ts]=mt,Dt.lst ((ssP (ts.map iS)).map hJ)=a2,Dt.lst ((ts.map iS).map hJ)=a1,(ts.map (jN n)).map Dt.bl=bs at *;simp[jb,gUn,iT,ln,i0,i1,wm,h2,h8,iT2,lc,al,hlen,lo,ss,ne]
  obtain⟨k,rfl⟩:∃ k:Nat,n=k:=⟨n.toNat,by lia⟩;have okN:∀ p∈ts.map iS,p.1<p.2/\p.2<k:=λ p hp=>by have:=ok p hp;lia
  have mt:pV [.int k,.tup ts,.int 0]=My (.lst ((srt ((o7 (ts.map iS) k 0).map λ(k:Nat)=>(k:Int))).map .int)):=by rw[<-et'];show(jU (gR k)).bind (λ n=>(dTs (iK (ts.map iS))).bind λ l=>(jU (gR 0)).bind λ p=>if (n<=8/\p<n)/\(l.length<=1000/\∀ t∈l,t.1<t.2/\t.2<n) then My (Dt.lst ((srt ((o7 l n p).map λ(k:Nat)=>(k:Int))).map .int)) else U5)=_;rw[jj,AY,jj,ak,ak,ak,ai ⟨⟨by lia,by lia⟩,by rw[ah];exact hlen,okN⟩]
  have lr:A5 (.int (k:Int))=My (.lst (((U8 k).map λ(k:Nat)=>(k:Int)).map .int)):=by show(if _ then _ else _)=_;rw[ai (by lia),aU];rfl
  have eq:Pq (.lst ((srt ((o7 (ts.map iS) k 0).map λ(k:Nat)=>(k:Int))).map .int)) (.lst (((U8 k).map λ(k:Nat)=>(k:Int)).map .int))=My (.bl (decide (((bfs (ts.map iS) 0).length:Int)=k))):=by show(mM _).bind (λ l=>(mM _).bind λ m=>My (Dt.bl (decide (l=m))))=_;rw[nE,nE,ak,ak];congr 2;rw[decide_eq_decide,JF okN (by lia),<-I_ okN (by lia)];lia
  have e:kM (.tup [.int k,.tup ts])=decide (((bfs (ts.map iS) 0).length:Int)=k):=by simp[kM,c4,c5,h2,h8]
  rw[c5]at ne;rw[e];generalize (k:Int)=kk,Dt.tup [.int k,.tup ts]=mt',Dt.lst ((ssP (ts.map iS)).map hJ)=a2,Dt.lst ((ts.map iS).map hJ)=a1,(ts.map (jN k)).map Dt.bl=bs,Dt.lst (((U8 k).map λ(k:Nat)=>(k:Int)).map .int)=a4,Dt.lst ((srt ((o7 (ts.map iS) k 0).map λ(k:Nat)=>(k:Int))).map .int)=a3,decide (((bfs (ts.map iS) 0).length:Int)=k)=z at *;simp[jb,gUn,iT,ln,i0,i1,wm,h2,h8,iT2,lc,al,hlen,lo,ss,ne,mt,lr,eq]
 | .tup [],_,_=>rfl
 | .tup [a],_,_=>cases a<;>rfl
 | .tup (a::b::c::r),hx,_ =>
  have iT:lC [.tup (a::b::c::r),.ty "tuple"]=My (.bl U6):=rfl;have ln:pE [.tup (a::b::c::r)]=My (.int ((r.length:Int)+3)):=by show My (Dt.int (((a::b::c::r).length:Nat):Int))=_;simp;lia
  have ne:¬ ((r.length:Int)+3=2):=by lia
  have e:kM (.tup (a::b::c::r))=U7:=by cases a<;>first | rfl | (cases b<;>rfl)
  rw[e];show jb [My (.tup (a::b::c::r))]=_;generalize (r.length:Int)+3=z,Dt.tup (a::b::c::r)=t at *;simp[jb,iT,ln,ne]
 | .non,_,_=>rfl
 | .bl _,_,_=>rfl
 | .int _,_,_=>rfl
 | .str _,_,_=>rfl
 | .lst _,_,_=>rfl
 | .dct _,_,_=>rfl
abbrev ur:=qW
theorem zj:Hg 1 ["_law_found"] kB ur:=uo
def hdP (H:Hp)(p:Addr):Hp:=λ b=>if b=p then U5 else H b
theorem qY (H:Hp)(p:Addr):g6 (hdP H p) H:=λ b o e=>by
 unfold hdP at e;by_cases c:b=p
 ·rw[ai c]at e;cases e
 ·rw[au c]at e;exact e
theorem mY {H:Hp}{p b:Addr}(h:b≠p):hdP H p b=H b:=au h
theorem rR {p:Addr}{H H':Hp}(h:∀ b o,H b=My o->b≠p->H' b=My o):g6 (hdP H p) (hdP H' p):=λ b o e=>by
 unfold hdP at e ⊢;by_cases c:b=p
 ·rw[ai c]at e;cases e
 ·rw[au c]at e ⊢;exact h b o e c
def Pw:List Dt->Bool
 | [.int _]=>U6
 | [.opq _]=>U6
 | _=>U7
mutual
def jO:Dt->Bool
 | .lst ds=>!Pw ds&&i_ ds
 | .tup ds=>i_ ds
 | _=>U6
def i_:List Dt->Bool
 | []=>U6
 | d::r=>jO d&&i_ r
end
section
variable {K:gK}{H:Hp}{p:Addr}{n:Int}(hp:H p=My (.lst [.int n]))
include hp
mutual
theorem Eu:∀ (d:Dt) {v:V},jO d=U6->Is K H v d->Is K (hdP H p) v d
 | .non,v,_,i=>by rw[i.AJ];exact .non
 | .bl b,v,_,i=>by rw[i.jY];exact .bl b
 | .int b,v,_,i=>by rw[i.int_inv];exact .int b
 | .str b,v,_,i=>by rw[i.str_inv];exact .str b
 | .ty b,v,_,i=>by rw[i.HV];exact .ty b
 | .opq b,v,_,i=>by rw[i.m_];exact .opq b
 | .dct kvs,v,_,i=>by
  obtain⟨a,rfl,ha⟩:=i.rC;have ne:a≠p:=λ z=>by subst z;rcases ha with h | ⟨o,h⟩<;>(rw[hp]at h;cases h)
  refine .dct ?_;rcases ha with h | ⟨o,h⟩
  ·exact .inl (by rw[mY ne];exact h)
  ·exact .inr ⟨o,by rw[mY ne];exact h⟩
 | .tup ds,v,h,i=>by
  obtain⟨a,xs,rfl,ha,js⟩:=i.iI;refine .tup ?_ (Bl ds (by rw[jO]at h;exact h) js);rcases ha with (h | ⟨o,h⟩) | h
  ·have ne:a≠p:=λ z=>by subst z;rw[hp]at h;cases h
   exact .inl (.inl (by rw[mY ne];exact h))
  ·have ne:a≠p:=λ z=>by subst z;rw[hp]at h;cases h
   exact .inl (.inr ⟨o,by rw[mY ne];exact h⟩)
  ·exact .inr h
 | .lst ds,v,h,i=>by
  obtain⟨a,xs,rfl,ha,js⟩:=i.lst_inv;rw[jO,aP]at h;have ne:a≠p:=λ z=>by
   subst z;rw[hp]at ha;cases ha;cases js with
   | cons j1 j2 =>
    cases j2;cases j1 with
    | int=>cases h.1
    | opq=>cases h.1
  exact .lst (by rw[mY ne];exact ha) (Bl ds h.2 js)
theorem Bl:∀ (ds:List Dt) {vs:List V},i_ ds=U6->Iss K H vs ds->Iss K (hdP H p) vs ds
 | [],vs,_,i=>by cases i;exact .nil
 | d::r,vs,h,i=>by
  cases i with
  | cons i1 i2 =>rw[i_,aP]at h;exact .cons (Eu d h.1 i1) (Bl r h.2 i2)
end
end
end L2
namespace L2
open PySem PySem.Spec PyProof.Rows Zp
inductive va:List Expr->List Str->Prop
 | nil:va [] []
 | cons {a:Str} {k:Nat} {p:Pos} {es:List Expr} {ss:List Str}:va es ss->va (.Constant (.str a) k p::es) (a::ss)
theorem va.pd {X:Cx}{es:List Expr}{ss:List Str}(h:va es ss):PDs X es (λ _=>My (ss.map .str)):=by
 induction h with
 | nil=>exact gX
 | cons h ih=>exact gQ qK ih rfl
theorem Ma {es:List Expr}{p:Pos}{t:gJ Expr}{line:Nat}{env:Env}:swapsWith (.List es p) t line env=pure U7:=rfl
open Qs
def sdX:XD->Dt
 | .ok d=>d
 | .error c=>.str (CO c)
def rtX:XD->RX
 | .ok d=>.rt d
 | .error c=>.ex c
end L2
namespace K02
open PySem PySem.Spec PyProof.Rows L2 Zp
section
variable {P:Program}{w:World}{K:gK}{mg:gG}{base:Heap}
end
end K02
namespace L2
open PySem PySem.Spec PyProof.Rows Zp Qs
theorem Px {x:Dt}(h1:okW x=U6)(h2:shW x=U6):mH [x]=My (.bl (kM x)):=by show(if okW x=U6/\shW x=U6 then My (Dt.bl (kM x)) else U5)=_;rw[ai ⟨h1,h2⟩]
def bt6:DE->gJ RD:=(jB 9 (g_ dIx (gT 3) (gT 4)))
def bt7:DE->gJ RD:=(jB 10 (iX (gP (g_ lh (g_ lh (g_ dTk (gT 9) (gT 5)) (iX (gP (gT 6) gS))) (g_ dDp (gT 9) (g_ (dI (·+·)) (gT 5) (gC (.int 1))))) gS)))
def bt8:DE->gJ RD:=(jB 11 (lQ (gP (iX (gP (gT 2) (gP (g_ lh (g_ lh (g_ dTk (gT 3) (gT 4)) (gT 10)) (g_ dDp (gT 3) (g_ (dI (·+·)) (gT 4) (gC (.int 1))))) gS))) (gP (iX (gP (gT 2) (gP (g_ lh (g_ dTk (gT 3) (gT 4)) (g_ dDp (gT 3) (g_ (dI (·+·)) (gT 4) (gC (.int 1))))) gS))) gS))))
def bt9:DE->gJ RD:=(jB 11 (g_ rZ (gT 11) (lQ (gP (iX (gP (gT 2) (gP (iM pI (gP (gT 3) gS)) gS))) (gP (lQ (gP (gT 2) (gP (gT 3) gS))) gS)))))
def Mb:DE->gJ RD:=(jB 11 (g_ rZ (gT 11) (lQ (gP (iX (gP (gT 2) (gP (g_ lh (g_ lh (g_ dTk (gT 3) (gT 4)) (iX (gP (iM pI (gP (gT 9) gS)) gS))) (g_ dDp (gT 3) (g_ (dI (·+·)) (gT 4) (gC (.int 1))))) gS))) (gP (iX (gP (gT 2) (gP (g_ lh (g_ lh (g_ dTk (gT 3) (gT 4)) (iX (gP (gUn Jn (gT 9)) gS))) (g_ dDp (gT 3) (g_ (dI (·+·)) (gT 4) (gC (.int 1))))) gS))) gS)))))
def Mc:DE->gJ RD:=(jB 11 (g_ rZ (gT 11) (lQ (gP (iX (gP (gT 2) (gP (g_ lh (g_ dTk (gT 3) (g_ (dI (·+·)) (gT 4) (gC (.int 1)))) (g_ dDp (gT 3) (gT 4))) gS))) (gP (iX (gP (gT 2) (gP (gUn Jn (gT 3)) gS))) (gP (iX (gP (g_ (dI (·+·)) (gT 2) (gC (.int 1))) (gP (gT 3) gS))) gS))))))
def Md:DE->gJ RD:=(jB 11 (g_ rZ (gT 11) (lQ (gP (iX (gP (g_ (dI (·-·)) (gT 2) (gC (.int 1))) (gP (gT 3) gS))) (gP (iX (gP (gT 6) (gP (gT 3) gS))) gS)))))
def Me:DE->gJ RD:=(jB 11 (g_ rZ (gT 11) (lQ (gP (iX (gP (gT 2) (gP (iM pF (gP (iM xQ (gP (g_ lh (gT 3) (iX (gP (iX (gP (gT 7) (gP (gT 8) gS))) gS))) gS)) gS)) gS))) (gP (iX (gP (gT 2) (gP (gT 3) (gP (iX gS) gS)))) (gP (iX (gP (gT 2) gS)) (gP (gT 3) (gP (gT 2) (gP (gT 6) (gP (iX gS) gS))))))))))
def Mf:DE->gJ RD:=(jB 11 (g_ rZ (gT 11) (lQ (gP (iX (gP (gT 2) (gP (g_ lh (g_ lh (g_ dTk (gT 3) (gT 4)) (iX (gP (g_ lh (gT 9) (iX (gP (gC (.int 0)) gS))) gS))) (g_ dDp (gT 3) (g_ (dI (·+·)) (gT 4) (gC (.int 1))))) gS))) (gP (iX (gP (gT 2) (gP (g_ lh (g_ lh (g_ dTk (gT 3) (gT 4)) (iX (gP (g_ dTk (gT 9) (gC (.int 1))) gS))) (g_ dDp (gT 3) (g_ (dI (·+·)) (gT 4) (gC (.int 1))))) gS))) gS)))))
theorem C3 (ds:List Dt)(k:Nat):dTk (.tup ds) (gR k)=My (.tup (ds.take k)):=by show(if 0<=(k:Int) then My (Dt.tup (ds.take (k:Int).toNat)) else U5)=_;rw[ai (by lia),cg]
theorem C4 (ds:List Dt)(k:Nat):dDp (.tup ds) (gR k)=My (.tup (ds.drop k)):=by show(if 0<=(k:Int) then My (Dt.tup (ds.drop (k:Int).toNat)) else U5)=_;rw[ai (by lia),cg]
theorem yj {a b:List Dt}(h:a.length+b.length<=1000):lh (.tup a) (.tup b)=My (.tup (a++b)):=by show(if a.length+b.length<=1000 then My (Dt.tup (a++b)) else U5)=_;rw[ai h]
theorem z_ (k:Nat):dI (·+·) (gR k) (.int 1)=My (gR (k+1)):=by show My (Dt.int ((k:Int)+1))=My (Dt.int ((k+1:Nat):Int));rfl
theorem Aa {a b:List Dt}(h:a.length+b.length<=1000):rZ (.lst a) (.lst b)=My (.lst (a++b)):=by show(if a.length+b.length<=1000 then My (Dt.lst (a++b)) else U5)=_;rw[ai h]
abbrev itm (t:Nat×Nat):List Dt:=[gR t.1,gR t.2]
def sQ (l:gN)(k:Nat)(x:List Dt):List Dt:=(l.map hJ).take k++x++(l.map hJ).drop (k+1)
def vZ (t:Nat×Nat)(wh:Nat)(od:Dt):Dt:=.tup ((itm t).take wh++[od]++(itm t).drop (wh+1))
def L8 (n:Nat)(l:gN)(k wh:Nat)(t:Nat×Nat)(od:Dt):List Dt:=[.tup [gR n,.tup (sQ l k [vZ t wh od])],.tup [gR n,.tup ((l.map hJ).take k++(l.map hJ).drop (k+1))]]
def L9 (n:Nat)(l:gN):List Dt:=[.tup [gR n,.lst (l.map hJ)],.lst [gR n,iK l]]
def L10 (n:Nat)(l:gN)(k:Nat)(t:Nat×Nat):List Dt:=[.tup [gR n,.tup (sQ l k [.lst (itm t)])],.tup [gR n,.tup (sQ l k [.tup (itm t).reverse])]]
def L11 (n:Nat)(l:gN)(k:Nat):List Dt:=[.tup [gR n,.tup ((l.map hJ).take (k+1)++(l.map hJ).drop k)],.tup [gR n,.tup (l.map hJ).reverse],.tup [gR (n+1),iK l]]
def L12 (n:Nat)(l:gN)(od:Dt):List Dt:=[.tup [.int ((n:Int)-1),iK l],.tup [od,iK l]]
def L13 (n:Nat)(l:gN)(od:Dt)(o:Nat×Nat):List Dt:=[.tup [gR n,iK (vW (l++[o]))],.tup [gR n,iK l,.tup []],.tup [gR n],iK l,gR n,od,.tup []]
def L14 (n:Nat)(l:gN)(k:Nat)(t:Nat×Nat):List Dt:=[.tup [gR n,.tup (sQ l k [.tup (itm t++[.int 0])])],.tup [gR n,.tup (sQ l k [.tup ((itm t).take 1)])]]
section
variable {n k wh:Nat}{l:gN}{t o:Nat×Nat}{od:Dt}(hk:l[k]?=My t)(hl:l.length<=30)(x0 x1:gJ Dt)
include hk hl
theorem yk (x:List Dt)(hx:x.length<=3):lh (.tup ((l.map hJ).take k)) (.tup x)=My (.tup ((l.map hJ).take k++x))/\lh (.tup ((l.map hJ).take k++x)) (.tup ((l.map hJ).drop (k+1)))=My (.tup (sQ l k x)):=by
 have h1:((l.map hJ).take k).length<=30:=by rw[bX,ah];lia
 have h2:((l.map hJ).drop (k+1)).length<=30:=by rw[cw,ah];lia
 exact⟨yj (by lia),yj (by rw[aK];lia)⟩
theorem Py (x2 x5 x6 x7 x8 x9 x10 x11:gJ Dt):bt6 [x0,x1,x2,My (iK l),My (gR k),x5,x6,x7,x8,x9,x10,x11]=My (.nx [x0,x1,x2,My (iK l),My (gR k),x5,x6,x7,x8,My (hJ t),x10,x11]):=by
 have:dIx (iK l) (gR k)=My (hJ t):=by show atI (l.map hJ) (k:Int)=_;refine lJ ?_;rw[aH,hk];rfl
 generalize gR k=nk,iK l=tt at *;simp[bt6,this]
theorem Pz (x2 x3 x4 x7 x8 x10 x11:gJ Dt):bt7 [x0,x1,x2,x3,x4,My (gR wh),My od,x7,x8,My (hJ t),x10,x11]=My (.nx [x0,x1,x2,x3,x4,My (gR wh),My od,x7,x8,My (hJ t),My (.tup [vZ t wh od]),x11]):=by
 have e:hJ t=.tup (itm t):=rfl;have h1:((itm t).take wh).length<=2:=List.length_take_le' _ _;have h2:((itm t).drop (wh+1)).length<=2:=by rw[cw];exact Nat.sub_le _ _
 have a1:=C3 (itm t) wh;have a2:=C4 (itm t) (wh+1);have a3:=z_ wh;have a4:=yj (a:=(itm t).take wh) (b:=[od]) (by simp only[bG];lia);have a5:=yj (a:=(itm t).take wh++[od]) (b:=(itm t).drop (wh+1)) (by rw[aK,bG];lia);rw[e];unfold vZ;generalize gR wh=w0,gR (wh+1)=w1,Dt.tup (itm t)=r4,Dt.tup ((itm t).take wh)=r3,Dt.tup ((itm t).drop (wh+1))=r2,Dt.tup ((itm t).take wh++[od])=r1,Dt.tup ((itm t).take wh++[od]++(itm t).drop (wh+1))=r at *;simp[bt7,a1,a2,a3,a4,a5]
theorem PB (x5 x6 x7 x8 x9 x11:gJ Dt):bt8 [x0,x1,My (gR n),My (iK l),My (gR k),x5,x6,x7,x8,x9,My (.tup [vZ t wh od]),x11]=My (.nx [x0,x1,My (gR n),My (iK l),My (gR k),x5,x6,x7,x8,x9,My (.tup [vZ t wh od]),My (.lst (L8 n l k wh t od))]):=by have e:iK l=.tup (l.map hJ):=rfl;have a1:=C3 (l.map hJ) k;have a2:=C4 (l.map hJ) (k+1);have a3:=z_ k;obtain⟨m1,m2⟩:=yk hk hl [vZ t wh od] (by simp);have m3:=yj (a:=(l.map hJ).take k) (b:=(l.map hJ).drop (k+1)) (by rw[bX,cw,ah];lia);unfold L8;rw[e];generalize gR n=nn,gR k=k0,gR (k+1)=k1,Dt.tup [vZ t wh od]=r6,Dt.tup (l.map hJ)=r4,Dt.tup ((l.map hJ).take k)=r3,Dt.tup ((l.map hJ).drop (k+1))=r2,Dt.tup ((l.map hJ).take k++[vZ t wh od])=r1,Dt.tup ((l.map hJ).take k++(l.map hJ).drop (k+1))=r5,Dt.tup (sQ l k [vZ t wh od])=r at *;simp[bt8,a1,a2,a3,m1,m2,m3]
theorem PH {S:List Dt}(hS:S.length<=100)(x4 x5 x6 x7 x8 x9 x10:gJ Dt):bt9 [x0,x1,My (gR n),My (iK l),x4,x5,x6,x7,x8,x9,x10,My (.lst S)]=My (.nx [x0,x1,My (gR n),My (iK l),x4,x5,x6,x7,x8,x9,x10,My (.lst (S++L9 n l))]):=by have lo:pI [iK l]=My (.lst (l.map hJ)):=rfl;have c:=Aa (a:=S) (b:=L9 n l) (by show S.length+2<=1000;lia);unfold L9 at *;generalize gR n=nn,iK l=tt,Dt.lst (l.map hJ)=r at *;simp[bt9,lo,c]
theorem Mg {S:List Dt}(hS:S.length<=100)(x5 x6 x7 x8 x10:gJ Dt):Mb [x0,x1,My (gR n),My (iK l),My (gR k),x5,x6,x7,x8,My (hJ t),x10,My (.lst S)]=My (.nx [x0,x1,My (gR n),My (iK l),My (gR k),x5,x6,x7,x8,My (hJ t),x10,My (.lst (S++L10 n l k t))]):=by have e:iK l=.tup (l.map hJ):=rfl;have a1:=C3 (l.map hJ) k;have a2:=C4 (l.map hJ) (k+1);have a3:=z_ k;have lo:pI [hJ t]=My (.lst (itm t)):=rfl;have rv:Jn (hJ t)=My (.tup (itm t).reverse):=rfl;obtain⟨m1,m2⟩:=yk hk hl [.lst (itm t)] (by simp);obtain⟨m3,m4⟩:=yk hk hl [.tup (itm t).reverse] (by simp);have c:=Aa (a:=S) (b:=L10 n l k t) (by show S.length+2<=1000;lia);unfold L10 at *;rw[e];generalize gR n=nn,gR k=k0,gR (k+1)=k1,hJ t=pt,Dt.tup (itm t).reverse=r6,Dt.lst (itm t)=r5,Dt.tup (l.map hJ)=r4,Dt.tup ((l.map hJ).take k)=r3,Dt.tup ((l.map hJ).drop (k+1))=r2,Dt.tup ((l.map hJ).take k++[.tup (itm t).reverse])=r7,Dt.tup ((l.map hJ).take k++[.lst (itm t)])=r1,Dt.tup (sQ l k [.tup (itm t).reverse])=r0,Dt.tup (sQ l k [.lst (itm t)])=r at *;simp[Mb,gUn,a1,a2,a3,lo,rv,m1,m2,m3,m4,c]
end
section
variable {n k wh:Nat}{l:gN}{t o:Nat×Nat}{od:Dt}(hk:l[k]?=My t)(hl:l.length<=30)(x0 x1:gJ Dt)
include hk hl
theorem Mh {S:List Dt}(hS:S.length<=100)(x5 x6 x7 x8 x9 x10:gJ Dt):Mc [x0,x1,My (gR n),My (iK l),My (gR k),x5,x6,x7,x8,x9,x10,My (.lst S)]=My (.nx [x0,x1,My (gR n),My (iK l),My (gR k),x5,x6,x7,x8,x9,x10,My (.lst (S++L11 n l k))]):=by
 have e:iK l=.tup (l.map hJ):=rfl;have a1:=C3 (l.map hJ) (k+1);have a2:=C4 (l.map hJ) k;have a3:=z_ k;have a4:=z_ n;have ne:l.map hJ≠[]:=λ z=>by have:l=[]:=List.map_eq_nil_iff.mp z;subst this;cases hk
 have rv:Jn (.tup (l.map hJ))=My (.tup (l.map hJ).reverse):=by show(if l.map hJ≠[] then My (Dt.tup (l.map hJ).reverse) else U5)=_;rw[ai ne]
 have m3:=yj (a:=(l.map hJ).take (k+1)) (b:=(l.map hJ).drop k) (by rw[bX,cw,ah];lia);have c:=Aa (a:=S) (b:=L11 n l k) (by show S.length+3<=1000;lia);unfold L11 at *;rw[e]at *;generalize gR n=nn,gR k=k0,gR (n+1)=n1,gR (k+1)=k1,Dt.tup (l.map hJ)=r5,Dt.tup ((l.map hJ).drop k)=r4,Dt.tup ((l.map hJ).take (k+1))=r3,Dt.tup (l.map hJ).reverse=r2,Dt.tup ((l.map hJ).take (k+1)++(l.map hJ).drop k)=r1 at *;simp[Mc,gUn,a1,a2,a3,a4,rv,m3,c]
theorem Mi {S:List Dt}(hS:S.length<=100)(x4 x5 x7 x8 x9 x10:gJ Dt):Md [x0,x1,My (gR n),My (iK l),x4,x5,My od,x7,x8,x9,x10,My (.lst S)]=My (.nx [x0,x1,My (gR n),My (iK l),x4,x5,My od,x7,x8,x9,x10,My (.lst (S++L12 n l od))]):=by have a4:dI (·-·) (gR n) (.int 1)=My (.int ((n:Int)-1)):=rfl;have c:=Aa (a:=S) (b:=L12 n l od) (by show S.length+2<=1000;lia);unfold L12 at *;generalize gR n=nn,iK l=tt,Dt.int ((n:Int)-1)=m at *;simp[Md,a4,c]
theorem Mj {S:List Dt}(hS:S.length<=100)(x4 x5 x9 x10:gJ Dt):Me [x0,x1,My (gR n),My (iK l),x4,x5,My od,My (gR o.1),My (gR o.2),x9,x10,My (.lst S)]=My (.nx [x0,x1,My (gR n),My (iK l),x4,x5,My od,My (gR o.1),My (gR o.2),x9,x10,My (.lst (S++L13 n l od o))]):=by
 have tp:Dt.tup [gR o.1,gR o.2]=hJ o:=rfl;have e:iK l=.tup (l.map hJ):=rfl;have m1:lh (iK l) (.tup [hJ o])=My (iK (l++[o])):=by have:=yj (a:=l.map hJ) (b:=[hJ o]) (by rw[ah,bG];lia);rw[e,this];show _=My (Dt.tup ((l++[o]).map hJ));rw[bu];rfl
 have s1:xQ [iK (l++[o])]=My (.lst ((vW (l++[o])).map hJ)):=by show(dTt (iK (l++[o]))).bind (λ l=>if l.length<64 then My (Dt.lst ((vW l).map hJ)) else U5)=_;rw[wo,ak,ai (by rw[aK,bG];lia)]
 have tu:pF [.lst ((vW (l++[o])).map hJ)]=My (iK (vW (l++[o]))):=rfl;have c:=Aa (a:=S) (b:=L13 n l od o) (by show S.length+7<=1000;lia);unfold L13 at *;generalize iK (l++[o])=r3,Dt.lst ((vW (l++[o])).map hJ)=r2,iK (vW (l++[o]))=r1 at *;clear e;generalize gR n=nn,gR o.2=o2,gR o.1=o1,hJ o=po,iK l=tt at *;simp[Me,tp,m1,s1,tu,c]
theorem Ml {S:List Dt}(hS:S.length<=100)(x5 x6 x7 x8 x10:gJ Dt):Mf [x0,x1,My (gR n),My (iK l),My (gR k),x5,x6,x7,x8,My (hJ t),x10,My (.lst S)]=My (.nx [x0,x1,My (gR n),My (iK l),My (gR k),x5,x6,x7,x8,My (hJ t),x10,My (.lst (S++L14 n l k t))]):=by have e:iK l=.tup (l.map hJ):=rfl;have a1:=C3 (l.map hJ) k;have a2:=C4 (l.map hJ) (k+1);have a3:=z_ k;have a5:dTk (hJ t) (.int 1)=My (.tup ((itm t).take 1)):=rfl;have a6:lh (hJ t) (.tup [.int 0])=My (.tup (itm t++[.int 0])):=rfl;obtain⟨m1,m2⟩:=yk hk hl [.tup (itm t++[.int 0])] (by simp);obtain⟨m3,m4⟩:=yk hk hl [.tup ((itm t).take 1)] (by simp);have c:=Aa (a:=S) (b:=L14 n l k t) (by show S.length+2<=1000;lia);unfold L14 at *;rw[e];generalize gR n=nn,gR k=k0,gR (k+1)=k1,hJ t=pt,Dt.tup ((itm t).take 1)=r6,Dt.tup (itm t++[.int 0])=r5,Dt.tup (l.map hJ)=r4,Dt.tup ((l.map hJ).take k)=r3,Dt.tup ((l.map hJ).drop (k+1))=r2,Dt.tup ((l.map hJ).take k++[.tup ((itm t).take 1)])=r7,Dt.tup ((l.map hJ).take k++[.tup (itm t++[.int 0])])=r1,Dt.tup (sQ l k [.tup ((itm t).take 1)])=r0,Dt.tup (sQ l k [.tup (itm t++[.int 0])])=r at *;simp[Mf,a1,a2,a3,a5,a6,m1,m2,m3,m4,c]
def JG (n:Nat)(l:gN)(k wh:Nat)(t:Nat×Nat)(od:Dt)(o:Nat×Nat):List Dt:=L8 n l k wh t od++L9 n l++L10 n l k t++L11 n l k++L12 n l od++L13 n l od o++L14 n l k t
end
def fit (d:Dt):Bool:=okW d&&(shW d&&jO d)
theorem rS (a b:List Dt):i_ (a++b)=(i_ a&&i_ b):=by
 induction a with
 | nil=>rw[gq,i_];rfl
 | cons d r ih=>rw[fz,i_,i_,ih,Bool.and_assoc]
theorem jQ {a:List Dt}:i_ a=U6↔∀ d∈a,jO d=U6:=by
 induction a with
 | nil=>simp[i_]
 | cons d r ih=>rw[i_,aP,ih];simp
theorem PJ (t:Nat×Nat):jO (hJ t)=U6:=by simp[hJ,gR,jO,i_]
theorem o8 (i:Int):jO (.int i)=U6:=by simp[jO]
theorem mf {a:List Dt}(h:i_ a=U6):jO (.tup a)=U6:=by rw[jO];exact h
theorem mI (l:gN):i_ (l.map hJ)=U6:=jQ.mpr λ d hd=>by obtain⟨t,_,rfl⟩:=aE.mp hd;exact PJ t
theorem JH (l:gN):(l.map hJ).all kT=U6:=by rw[bF];intro d hd;obtain⟨t,_,rfl⟩:=aE.mp hd;rfl
theorem wK {m:Dt}{ts:List Dt}(hm:kdB m=U6)(nm:jO m=U6)(hl:ts.length<=40)(hk:ts.all kT=U6)(hn:i_ ts=U6):fit (.tup [m,.tup ts])=U6:=by
 unfold fit;have a:okW (.tup [m,.tup ts])=U6:=by show(kdB m&&(decide (ts.length<=1000)&&ts.all kT))=U6;rw[hm,hk,decide_eq_true (by lia)];rfl
 have b:shW (.tup [m,.tup ts])=U6:=decide_eq_true hl;rw[a,b,mf (by rw[i_,nm,i_,mf hn];rfl)];rfl
theorem Bm {p:Dt->Bool}{a b:List Dt}(h:b.all p=U6)(s:∀ d∈a,d∈b):a.all p=U6:=by rw[bF]at *;exact λ d hd=>h d (s d hd)
section
variable {n k wh:Nat}{l:gN}{t o:Nat×Nat}{od:Dt}(hl:l.length<=30)
include hl
theorem uu {x:List Dt}(hx:x.length<=3)(hk:x.all kT=U6)(hn:i_ x=U6):fit (.tup [gR n,.tup (sQ l k x)])=U6:=by
 have s1:∀ d∈(l.map hJ).take k,d∈l.map hJ:=λ d hd=>dP hd;have s2:∀ d∈(l.map hJ).drop (k+1),d∈l.map hJ:=λ d hd=>en hd;have n1:i_ ((l.map hJ).take k)=U6:=jQ.mpr λ d hd=>jQ.mp (mI l) d (s1 d hd);have n2:i_ ((l.map hJ).drop (k+1))=U6:=jQ.mpr λ d hd=>jQ.mp (mI l) d (s2 d hd);refine wK rfl (o8 _) ?_ ?_ ?_
 ·unfold sQ;rw[aK,aK,bX,cw,ah];lia
 ·unfold sQ;rw[List.all_append,List.all_append,Bm (JH l) s1,hk,Bm (JH l) s2];rfl
 ·unfold sQ;rw[rS,rS,n1,hn,n2];rfl
theorem FJ {m:Dt}(hm:kdB m=U6)(nm:jO m=U6):fit (.tup [m,iK l])=U6:=wK hm nm (by rw[ah];lia) (JH l) (mI l)
omit hl in
theorem Bn {ts:List Dt}(h40:ts.length<=40)(s:∀ d∈ts,d∈l.map hJ):fit (.tup [gR n,.tup ts])=U6:=wK rfl (o8 _) h40 (Bm (JH l) s) (jQ.mpr λ d hd=>jQ.mp (mI l) d (s d hd))
theorem JI:fit (iK l)=U6:=by
 have nn:jO (iK l)=U6:=mf (mI l);unfold fit;rw[nn,eg];match l with
 | []=>rfl
 | [a]=>rfl
 | [a,b]=>rfl
 | a::b::c::r =>have h1:okW (iK (a::b::c::r))=((a::b::c::r).map hJ).all kdB:=rfl;have h2:shW (iK (a::b::c::r))=U6:=rfl;rw[h1,h2,eg,bF];intro d hd;obtain⟨t,_,rfl⟩:=aE.mp hd;rfl
theorem JJ (h1:kdB od=U6)(h2:kT od=U6)(h3:fit od=U6)(hb:kT (vZ t wh od)=U6):∀ d∈JG n l k wh t od o,fit d=U6:=by
 have no:jO od=U6:=by unfold fit at h3;rw[aP,aP]at h3;exact h3.2.2
 have nb:jO (vZ t wh od)=U6:=by
  have a:i_ (itm t)=U6:=by simp[itm,gR,i_,jO]
  refine mf ?_;rw[rS,rS];have x1:i_ ((itm t).take wh)=U6:=jQ.mpr λ d hd=>jQ.mp a d (dP hd);have x2:i_ ((itm t).drop (wh+1))=U6:=jQ.mpr λ d hd=>jQ.mp a d (en hd);rw[x1,x2,i_,no,i_];rfl
 intro d hd;unfold JG L8 L9 L10 L11 L12 L13 L14 at hd;simp only[a_,aD,bg,or_false]at hd;rcases hd with (((((((rfl | rfl) | rfl | rfl) | rfl | rfl) | rfl | rfl | rfl) | rfl | rfl) | rfl | rfl | rfl | rfl | rfl | rfl | rfl) | rfl | rfl)
 ·exact uu hl (by simp) (by simp[hb]) (by simp[i_,nb])
 ·exact Bn (by rw[aK,bX,cw,ah];lia) λ d hd=>(a_.mp hd).elim dP en
 ·have:jO (.lst (l.map hJ))=U6:=by
   rw[jO,mI];match l with
   | []=>rfl
   | [a]=>rfl
   | a::b::r=>rfl
  show(U6&&(U6&&jO (.tup [gR n,.lst (l.map hJ)])))=U6;rw[mf (by rw[i_,i_,this];rfl)];rfl
 ·have:jO (.lst [gR n,iK l])=U6:=by
   rw[jO,i_,i_,show jO (iK l)=U6 from mf (mI l)];rfl
  show(U6&&(U6&&jO (.lst [gR n,iK l])))=U6;rw[this];rfl
 ·exact uu hl (by simp) (by simp[kT,kdB,mQ]) (by simp[i_,jO,Pw,itm,gR])
 ·exact uu hl (by simp) (by simp[kT,kdB,mQ,itm,gR]) (by simp[i_,jO,itm,gR])
 ·exact Bn (by rw[aK,bX,cw,ah];lia) λ d hd=>(a_.mp hd).elim dP en
 ·exact Bn (by rw[eK,ah];lia) λ d hd=>List.mem_reverse.mp hd
 ·exact FJ hl rfl (o8 _)
 ·exact FJ hl rfl (o8 _)
 ·exact FJ hl h1 no
 ·exact wK rfl (o8 _) (by rw[ah,(u6 _).length_eq,aK,bG];lia) (JH _) (mI _)
 ·have nn:jO (iK l)=U6:=mf (mI l);show(U6&&(U6&&jO (.tup [gR n,iK l,.tup []])))=U6;rw[mf (by rw[i_,i_,nn,i_,i_,jO,i_];rfl)];rfl
 ·show(U6&&(U6&&jO (.tup [gR n])))=U6;simp[jO,i_,gR]
 ·exact JI hl
 ·show(U6&&(U6&&jO (gR n)))=U6;simp[jO,gR]
 ·exact h3
 ·show(U6&&(U6&&jO (.tup [])))=U6;simp[jO,i_]
 ·exact uu hl (by simp) (by simp[kT,kdB,mQ,itm,gR]) (by simp[i_,jO,itm,gR])
 ·exact uu hl (by simp) (by simp[kT,kdB,mQ,itm,gR]) (by simp[i_,jO,itm,gR])
end
theorem Mm (x:Str):vT (.str x) (.str x)=My (.bl U7):=by
 have a:sh3 (.str x) (.str x)=U6:=rfl;have b:dEq (.str x) (.str x)=U6:=by simp[dEq]
 unfold vT;rw[ai a,b];rfl
theorem Mn {d:Dt}(h:Em d=U6):FE [d]=My (.str (rpS d)):=ai h
theorem Good.pW {w:Web}(g:Good w):okW (h_ w)=U6:=by have f:fit (h_ w)=U6:=FJ g.len rfl (o8 _);unfold fit at f;rw[aP]at f;exact f.1
structure Rb (W D:Nat)(d:Dt):Prop where
 pl:plD d=U6
 sh:(toPy d).showable=U6
 lv:(toPy d).leavesShort 40=U6
 wt:(toPy d).weight<=W
 dp:(toPy d).depth<=D
theorem JK {W m k:Nat}(h:k<=m):(W+1)*k<=(W+1)*m:=Nat.mul_le_mul_left _ h
section
variable {n k wh:Nat}{l:gN}{t o:Nat×Nat}{od:Dt}(n2:2<=n)(n8:n<=8)(hl:l.length<=30)(hm:∀ t∈l,t.1<9/\t.2<9)(hk:l[k]?=My t)(ho:o.1<9/\o.2<9)(hod:Rb 100 2 od)
end
def xWP (x y:Dt)(k:Web->Nat->XD):XD:=match xW x with
 | .error c=>.error c
 | .ok w=>match xP w y with
  | .error c=>.error c
  | .ok a=>k w a
def Bo (x y z:Dt)(k:Web->Nat->Nat->XD):XD:=xWP x y λ w a=>match xP w z with
 | .error c=>.error c
 | .ok b=>k w a b
section
variable {w:Web}(g:Good w)
include g
theorem Good.Mo {a k:Nat}(ha:a<w.1)(hk:k<=30):Fs [h_ w,gR a,gR k]=My (.tup ((PQ w k a).map hV)):=by show(dW (h_ w)).bind (λ w=>(jU (gR a)).bind λ p=>(jU (gR k)).bind λ k=>if p<w.1/\k<=30 then (itQ w k (unit w.1 p)).map λ l=>Dt.tup (l.map hV) else U5)=_;rw[mC g,jj,jj,ak,ak,ak,ai ⟨ha,hk⟩,LF,g.I9 ha k 0 (by lia),Nat.zero_add];rfl
theorem Good.PK {a b k:Nat}(ha:a<w.1)(hb:b<w.1)(hk:k<=30):IE [h_ w,gR a,gR b,gR k]=My (gR (wy w k a b)):=by show(dW (h_ w)).bind (λ w=>(jU (gR a)).bind λ a=>(jU (gR b)).bind λ b=>(jU (gR k)).bind λ k=>if a<w.1/\b<w.1/\k<=30/\Cw w=U6 then My (gR ((kL w a k).getD b 0)) else U5)=_;rw[mC g,jj,jj,jj,ak,ak,ak,ak,ai ⟨ha,hb,hk,g.TZ⟩,g.A8 a k b hb]
omit g in
theorem Mp {x y:Rat}(hx:sm x)(hy:sm y):nh [hV x,hV y]=My (hV (x*y)):=by show(dQ (hV x)).bind (λ a=>(dQ (hV y)).bind λ b=>if sm a/\sm b then My (hV (a*b)) else U5)=_;rw[xE,xE,ak,ak,ai ⟨hx,hy⟩]
end
end L2
namespace L2
open PySem PySem.Spec PyProof.Rows Zp
section
variable {X:Cx}{e:Expr}{es:List Expr}{pos p:Pos}{x:Str}{st:Stmt}{j k n:Nat}{ps:List Str}
theorem PL:Passes (CXE X.prog X.w) X E0:=λ _ _ _ _ _ _ _ h=>by obtain⟨a,cls,a0,H',h⟩:=h;obtain⟨_,_,_,_,_,h⟩:=h;exact False.elim (by simp[E0]at h)
theorem pCX {sp:Sp}{t:TA}(T:FnT X.K X.mg x st ps)(F:pg X.prog X.w X.K X.mg X.base (CXE X.prog X.w) k T.f T.fd ps sp)(hr:jI j X.A)(ha:PA X (e::es) t)(hj:k<=j:=by decide)(hg:Gl X x:=by rfl)(hdb:(x==("__debug__":Str))=U7:=by decide)(he:starEach (e::es) X.env=(U7,eval e X.env)::starEach es X.env:=by rfl)(hpl:(backTo pos (starEach es X.env)).any (·.1)=U7:=by rfl) :
  PE X (.Call (.Name x p) (e::es) [] pos) (jD sp [] E0 t):=s_ (X:=X) F (hr.mono hj) hg T.m T.F.kp T.b .nil PL ha hdb he hpl
def okX (f:List Dt->gJ XD):List Dt->gJ Dt:=λ ds=>match f ds with
 | some (.ok d)=>My d
 | _=>U5
set_option tactic.hygienic true in
theorem dCX {C:Str->Addr}{f:List Dt->gJ XD}{gs:DE->gJ (List Dt)}(T:FnT X.K X.mg x st ps)(F:pg X.prog X.w X.K X.mg X.base (CXE X.prog X.w) k T.f T.fd ps (spX X.K C n f))(hr:jI j X.A)(ha:PDs X (e::es) gs)(hj:k<=j:=by decide)(hg:Gl X x:=by rfl)(hdb:(x==("__debug__":Str))=U7:=by decide)(he:starEach (e::es) X.env=(U7,eval e X.env)::starEach es X.env:=by rfl)(hpl:(backTo pos (starEach es X.env)).any (·.1)=U7:=by rfl) :
  PD X (.Call (.Name x p) (e::es) [] pos) (hG n (okX f) gs):=(mG (pCX T F hr ha hj hg hdb he hpl)).of λ σ H Q hz=>by
 obtain⟨δ,d,S,h,q⟩:=hz;obtain⟨ds,e1,e2⟩:=gU h;by_cases hl:ds.length=n
 ·rw[ai hl]at e2
  unfold okX at e2;split at e2
  ·rename_i d' ed;cases e2;refine⟨δ,.ok d,S,?_,q⟩;unfold qo;rw[e1,ak,ai hl];exact ed
  ·cases e2
 ·rw[au hl]at e2;cases e2
end
open Qs
theorem good2:Good (2,[(0,1)]):=⟨by decide,by decide,by decide,by decide,wx (n:=2) (by decide) (by decide) (λ S h0 h v hv=>by
 have h1:S 1:=(h (0,1) (by simp)).mp h0;rcases (show v=0\/v=1 from by lia) with rfl | rfl
 ·exact h0
 ·exact h1),by decide,by simp⟩
section
variable {X:Cx}
def vD:List Dt->gJ Dt
 | [.bl k]=>My (.int (if k then 1 else 0))
 | [.int i]=>My (.int i)
 | _=>U5
theorem Bp:jy X (.type "int") (cD X.K vD):=vx F0 λ xs H Q ds d is e q=>by
 match ds,e with
 | [.bl k],e =>cases e;obtain⟨v,rfl,iv⟩:=is.one;rw[iv.jY];exact .inr ⟨k,rfl,q _ H (g6.refl H) (.int _)⟩
 | [.int k],e =>cases e;obtain⟨v,rfl,iv⟩:=is.one;rw[iv.int_inv];exact .inl ⟨k,rfl,q _ H (g6.refl H) (.int _)⟩
@[simp] theorem Ue (k:Bool):vD [.bl k]=My (.int (if k then 1 else 0)):=rfl
end
def vb (m:Int):Dt->Bool
 | .int i=>decide (0<=i/\i<=m)
 | _=>U7
def xN (m:Int)(x:Dt):Except Str Nat:=if vb m x=U6 then .ok (Ru x) else .error "NoNumber"
set_option tactic.hygienic true in
theorem Nu {m:Int}{x:Dt}{k:Nat}(h:xN m x=.ok k):x=gR k/\(k:Int)<=m:=by
 unfold xN at h;by_cases c:vb m x=U6
 ·rw[ai c]at h
  cases h;unfold vb at c;split at c
  ·rename_i i
   rw[decide_eq_true_eq]at c;constructor
   ·show Dt.int i=.int ((i.toNat:Nat):Int);rw[show((i.toNat:Nat):Int)=i by lia]
   ·show((i.toNat:Nat):Int)<=m;lia
  ·cases c
 ·rw[au c]at h;cases h
theorem Bq {m:Int}{k:Nat}(h:(k:Int)<=m):xN m (gR k)=.ok k:=by
 unfold xN;have c:vb m (gR k)=U6:=by show decide (0<=(k:Int)/\(k:Int)<=m)=U6;rw[decide_eq_true_eq];lia
 rw[ai c];show Except.ok (k:Int).toNat=_;simp
theorem Nv {m:Int}{x:Dt}(h:vb m x=U7):xN m x=.error "NoNumber":=by unfold xN;rw[h,au ax]
def kS:List Dt->gJ XD:=Pn λ x y=>(tN y).bind λ m=>if kdB x=U6 then My (qw (xN m x)) else U5
def ky:DE->gJ RX:=Jo (tK (lP (gTr (hG 1 jV (gP (gT 0) gS)))) (lP (gB (qL (dIB λ i j=>decide (i<=j)) (dIB λ i j=>decide (i<=j)) (gC (.int 0)) (gT 0) (gT 1))))) (xR "NoNumber" (gC (.str "this is no such number of steps"))) (xUp mL)
theorem PM {x:Dt}(h:kdB x=U6):jV [x]=My (.bl (whB x)):=by obtain⟨k,hk⟩:=cP.mp h;show(mQ x).map _=_;rw[hk];rfl
theorem v8:HgX 2 ["thing","most"] kS ky:=by
 intro ds r hl h;obtain⟨x,y,rfl,h1⟩:=CV h;obtain⟨m,e,h2⟩:=gU h1;clear h h1;obtain rfl:=ly e;by_cases hx:kdB x=U6
 rotate_left
 ·rw[au hx]at h2;cases h2
 rw[ai hx]at h2;cases h2;have c:=PM hx;by_cases hw:whB x=U6
 ·rw[hw]at c
  have:∃ i,x=.int i:=by
   unfold whB at hw;split at hw
   ·exact⟨_,rfl⟩
   ·cases hw
  obtain⟨i,rfl⟩:=this;unfold xN;show ∃ r',_/\_;by_cases cc:0<=i/\i<=m
  ·have nb:vb m (.int i)=U6:=decide_eq_true cc;rw[ai nb];exact⟨.nx [My (.int i),My (.int m)],by simp[ky,c,cc.1,cc.2],rfl⟩
  ·have nb:¬ vb m (.int i)=U6:=by show ¬ decide (0<=i/\i<=m)=U6;simpa using cc
   rw[au nb];refine⟨.ex "NoNumber",?_,rfl⟩;by_cases c0:0<=i
   ·have c1:¬ i<=m:=λ z=>cc ⟨c0,z⟩;simp[ky,c,c0,c1]
   ·simp[ky,c,c0]
 ·have hw:whB x=U7:=by cases h:whB x<;>simp_all
  rw[hw]at c;have nb:vb m x=U7:=by cases x<;>first | rfl | cases hw
  rw[Nv nb];exact⟨.ex "NoNumber",by simp[ky,c],rfl⟩
theorem RE {x:Dt}{m:Int}(h:kdB x=U6):kS [x,.int m]=My (qw (xN m x)):=by show(if kdB x=U6 then My (qw (xN m x)) else U5)=_;rw[ai h]
def sR (x y z:Dt)(k:Web->Nat->Nat->XD):XD:=xWP x y λ w a=>match xN 30 z with
 | .error c=>.error c
 | .ok n=>k w a n
def m9 (x y z u:Dt)(k:Web->Nat->Nat->Nat->XD):XD:=Bo x y z λ w a b=>match xN 30 u with
 | .error c=>.error c
 | .ok n=>k w a b n
def afX (w:Web)(a n:Nat):XD:=.ok (.tup ((PQ w n a).map hV))
def wyX (w:Web)(a b n:Nat):XD:=.ok (gR (wy w n a b))
def mh:List Dt->gJ XD
 | [x,y,z]=>if okW x=U6/\kdB y=U6/\kdB z=U6 then My (sR x y z afX) else U5
 | _=>U5
def nB:List Dt->gJ XD
 | [x,y,z,u]=>if okW x=U6/\kdB y=U6/\kdB z=U6/\kdB u=U6 then My (m9 x y z u wyX) else U5
 | _=>U5
def ym:DE->gJ RD:=(jc (jB 3 (iM pF (gP (gLC ["other"] [1] (jJ (gP (g_ dIx (gT 0) (gC (.int 0))) gS)) (ggN 0) jd (gIf (gB (g_ lx (gT 0) (gT 1))) (gC Iv) (gC xF))) gS))) (jc (rY (jJ (gP (gT 2) gS)) (ggN 4) (jB 3 (hG 2 jk (gP (gT 0) (gP (gT 3) gS))))) (kc (gT 3))))
def C5:DE->gJ RD:=(jc (yV (nc 4 5) (gT 0)) (jc (jB 6 (gLC ["place"] [1] (jJ (gP (gT 4) gS)) (ggN 0) jd (gIf (gB (g_ lx (gT 0) (gT 1))) (gC (.int 1)) (gC (.int 0))))) (jc (rY (jJ (gP (gT 3) gS)) (ggN 7) (jB 6 (gLC ["place"] [6,5] (jJ (gP (gT 4) gS)) (ggN 0) jd (iM si (gP (gLC ["near"] [1] (gI jE (hG 2 jq (gP (gT 2) (gP (gT 0) gS)))) (ggN 0) jd (g_ dIx (gT 1) (gT 0))) gS))))) (kc (g_ dIx (gT 6) (gT 2))))))
theorem GV:A1=jc (nL (hG 1 mO (gP (gT 0) gS))) (jc (nL (hG 2 kg (gP (gT 0) (gP (gT 1) gS)))) (jc (nL (hG 2 jG (gP (gT 2) (gP (gC (.int 30)) gS)))) ym)):=rfl
theorem JL:D6=jc (nL (hG 1 mO (gP (gT 0) gS))) (jc (nL (hG 2 kg (gP (gT 0) (gP (gT 1) gS)))) (jc (nL (hG 2 kg (gP (gT 0) (gP (gT 2) gS)))) (jc (nL (hG 2 jG (gP (gT 3) (gP (gC (.int 30)) gS)))) C5))):=rfl
theorem Good.GW {w:Web}(g:Good w){a n:Nat}(ha:a<w.1)(hn:n<=30):∃ r,ym [My (h_ w),My (gR a),My (gR n),U5,U5]=My r/\Gh r=.tup ((PQ w n a).map hV):=by
 obtain⟨r,e,hr⟩:=IF [h_ w,gR a,gR n] _ rfl (g.Mo ha hn);refine⟨r,?_,hr⟩;have c1:=wq (mC g);have c2:=nF (mC g) ha;have c3:jG [gR n,.int 30]=My .non:=by show(if 0<=(n:Int)/\(n:Int)<=30 then My Dt.non else U5)=_;rw[ai (by lia)]
 rw[<-e,GV];show _=jc _ _ [My (h_ w),My (gR a),My (gR n),U5,U5];generalize gR n=nn,gR a=aa,h_ w=ww,ym=R at *;simp[c1,c2,c3]
theorem Good.JM {w:Web}(g:Good w){a b n:Nat}(ha:a<w.1)(hb:b<w.1)(hn:n<=30):∃ r,C5 [My (h_ w),My (gR a),My (gR b),My (gR n),U5,U5,U5,U5]=My r/\Gh r=gR (wy w n a b):=by
 obtain⟨r,e,hr⟩:=Lu [h_ w,gR a,gR b,gR n] _ rfl (g.PK ha hb hn);refine⟨r,?_,hr⟩;have c1:=wq (mC g);have c2:=nF (mC g) ha;have c2b:=nF (mC g) hb;have c3:jG [gR n,.int 30]=My .non:=by show(if 0<=(n:Int)/\(n:Int)<=30 then My Dt.non else U5)=_;rw[ai (by lia)]
 rw[<-e,JL];show _=jc _ _ [My (h_ w),My (gR a),My (gR b),My (gR n),U5,U5,U5,U5];generalize gR n=nn,gR b=bb,gR a=aa,h_ w=ww,C5=R at *;simp[c1,c2,c2b,c3]
def nW:DE->gJ RX:=Ba (uf (qo 1 md (gP (gT 0) gS))) (Ba (uf (qo 2 ku (gP (gT 0) (gP (gT 1) gS)))) (Ba (uf (qo 2 kS (gP (gT 2) (gP (gC (.int 30)) gS)))) (xUp ym)))
def ox:DE->gJ RX:=Ba (uf (qo 1 md (gP (gT 0) gS))) (Ba (uf (qo 2 ku (gP (gT 0) (gP (gT 1) gS)))) (Ba (uf (qo 2 ku (gP (gT 0) (gP (gT 2) gS)))) (Ba (uf (qo 2 kS (gP (gT 3) (gP (gC (.int 30)) gS)))) (xUp C5))))
theorem Nw {r:RD}{d:Dt}(h:Gh r=d)(ne:d≠.non):r=.rt d:=by
 cases r with
 | nx δ=>exact absurd h.symm ne
 | rt d'=>cases h;rfl
theorem GX:HgX 3 ["web","place","steps","shares","step"] mh nW:=by
 intro ds r hl h;match ds,h with
 | [x,y,z],h =>
  by_cases hx:okW x=U6/\kdB y=U6/\kdB z=U6
  rotate_left
  ·exact absurd ((au hx).symm.trans h) (λ e=>by cases e)
  have h:My (sR x y z afX)=My r:=(ai hx).symm.trans h;cases h;obtain⟨hx,hy,hz⟩:=hx;have c1:=cw_X hx;have c3:=RE (m:=30) hz;unfold sR xWP;cases e1:xW x with
  | error k=>rw[e1]at c1;exact⟨.ex k,by simp[nW,c1,qw],rfl⟩
  | ok w =>
   rw[e1]at c1;obtain⟨rfl,g⟩:=Nr e1;have c2:=Po g hy;dsimp only;cases e2:xP w y with
   | error k=>rw[e2]at c2;generalize h_ w=ww at *;exact⟨.ex k,by simp[nW,c1,c2,qw],rfl⟩
   | ok a =>
    rw[e2]at c2;obtain⟨rfl,ha⟩:=Jw e2;dsimp only;cases e3:xN 30 z with
    | error k=>rw[e3]at c3;generalize gR a=na,h_ w=ww at *;exact⟨.ex k,by simp[nW,c1,c2,c3,qw],rfl⟩
    | ok n =>rw[e3]at c3;obtain⟨rfl,hn⟩:=Nu e3;obtain⟨r,e4,hr⟩:=g.GW ha (n:=n) (by lia);have hr:=Nw hr (λ z=>by cases z);subst hr;refine⟨.rt (.tup ((PQ w n a).map hV)),?_,rfl⟩;show nW [My (h_ w),My (gR a),My (gR n),U5,U5]=_;unfold nW;generalize gR n=nn,gR a=na,h_ w=ww,Dt.tup ((PQ w n a).map hV)=res,ym=R at *;simp[c1,c2,c3,e4,qw]
theorem JN:HgX 4 ["web","a","b","steps","many","ties","numbers","step"] nB ox:=by
 intro ds r hl h;match ds,h with
 | [x,y,z,u],h =>
  by_cases hx:okW x=U6/\kdB y=U6/\kdB z=U6/\kdB u=U6
  rotate_left
  ·exact absurd ((au hx).symm.trans h) (λ e=>by cases e)
  have h:My (m9 x y z u wyX)=My r:=(ai hx).symm.trans h;cases h;obtain⟨hx,hy,hz,hu⟩:=hx;have c1:=cw_X hx;have c4:=RE (m:=30) hu;unfold m9 Bo xWP;cases e1:xW x with
  | error k=>rw[e1]at c1;exact⟨.ex k,by simp[ox,c1,qw],rfl⟩
  | ok w =>
   rw[e1]at c1;obtain⟨rfl,g⟩:=Nr e1;have c2:=Po g hy;have c3:=Po g hz;dsimp only;cases e2:xP w y with
   | error k=>rw[e2]at c2;generalize h_ w=ww at *;exact⟨.ex k,by simp[ox,c1,c2,qw],rfl⟩
   | ok a =>
    rw[e2]at c2;obtain⟨rfl,ha⟩:=Jw e2;dsimp only;cases e3:xP w z with
    | error k=>rw[e3]at c3;generalize gR a=na,h_ w=ww at *;exact⟨.ex k,by simp[ox,c1,c2,c3,qw],rfl⟩
    | ok b =>
     rw[e3]at c3;obtain⟨rfl,hb⟩:=Jw e3;dsimp only;cases e4:xN 30 u with
     | error k=>rw[e4]at c4;generalize gR b=nb,gR a=na,h_ w=ww at *;exact⟨.ex k,by simp[ox,c1,c2,c3,c4,qw],rfl⟩
     | ok n =>rw[e4]at c4;obtain⟨rfl,hn⟩:=Nu e4;obtain⟨r,e5,hr⟩:=g.JM ha hb (n:=n) (by lia);have hr:=Nw hr (λ z=>by cases z);subst hr;refine⟨.rt (gR (wy w n a b)),?_,rfl⟩;show ox [My (h_ w),My (gR a),My (gR b),My (gR n),U5,U5,U5,U5]=_;unfold ox;generalize gR n=nn,gR b=nb,gR a=na,h_ w=ww,gR (wy w n a b)=res,C5=R at *;simp[c1,c2,c3,c4,e5,qw]
def k_ (k:Int)(x y z u:Dt):XD:=if k=0 then sR x y u afX else m9 x y z u wyX
def mi:List Dt->gJ Dt
 | [k,x,y,z,u]=>(tN k).bind λ k=>if okW x=U6/\kdB y=U6/\kdB z=U6/\kdB u=U6 then My (sdX (k_ k x y z u)) else U5
 | _=>U5
def Mq:DE->gJ RX:=Pk (xIf (gB (g_ lx (gT 0) (gC (.int 0)))) (qo 3 mh (gP (gT 1) (gP (gT 2) (gP (gT 4) gS)))) (qo 4 nB (gP (gT 1) (gP (gT 2) (gP (gT 3) (gP (gT 4) gS))))))
theorem Mr (k:Int){x y z u:Dt}(hx:okW x=U6)(hy:kdB y=U6)(hz:kdB z=U6)(hu:kdB u=U6)(r:gJ Dt):Mq [My (.int k),My x,My y,My z,My u,r]=My (rtX (k_ k x y z u)):=by
 have c1:mh [x,y,u]=My (sR x y u afX):=ai ⟨hx,hy,hu⟩;have c2:nB [x,y,z,u]=My (m9 x y z u wyX):=ai ⟨hx,hy,hz,hu⟩;have q:lx (.int k) (.int 0)=My (.bl (decide (k=0))):=by show My (Dt.bl (k==0))=My (Dt.bl (decide (k=0)));rfl
 unfold k_;by_cases h:k=0
 ·rw[ai h];rw[decide_eq_true h]at q;generalize sR x y u afX=rr at *;cases rr<;>simp[Mq,c1,q,rtX]
 ·rw[au h];rw[decide_eq_false h]at q;generalize m9 x y z u wyX=rr at *;cases rr<;>simp[Mq,c2,q,rtX]
theorem Ms {k:Int}{x y z u:Dt}{c:Str}(h:k_ k x y z u=.error c):c∈u9:=by
 have m1:("NoWeb":Str)∈u9:=by decide +kernel
 have m2:("NoPlace":Str)∈u9:=by decide +kernel
 have m3:("NoNumber":Str)∈u9:=by decide +kernel
 have hw:∀ {c:Str},xW x=.error c->c∈u9:=λ e=>by
  unfold xW at e;split at e
  ·cases e
  ·cases e;exact m1
 have hp:∀ {w:Web} {y:Dt} {c:Str},xP w y=.error c->c∈u9:=λ e=>by
  unfold xP at e;split at e
  ·cases e
  ·cases e;exact m2
 have hn:∀ {u:Dt} {c:Str},xN 30 u=.error c->c∈u9:=λ e=>by
  unfold xN at e;split at e
  ·cases e
  ·cases e;exact m3
 unfold k_ sR m9 Bo xWP at h;cases e1:xW x with
 | error c1=>rw[e1]at h;split at h<;>(cases h;exact hw e1)
 | ok w =>
  rw[e1]at h;dsimp only at h;cases e2:xP w y with
  | error c2=>rw[e2]at h;split at h<;>(cases h;exact hp e2)
  | ok a =>
   rw[e2]at h;dsimp only at h;split at h
   ·cases e4:xN 30 u with
    | error c4=>rw[e4]at h;cases h;exact hn e4
    | ok n=>rw[e4]at h;cases h
   ·cases e3:xP w z with
    | error c3=>rw[e3]at h;cases h;exact hp e3
    | ok b =>
     rw[e3]at h;dsimp only at h;cases e4:xN 30 u with
     | error c4=>rw[e4]at h;cases h;exact hn e4
     | ok n=>rw[e4]at h;cases h
theorem Good.RF {w:Web}(g:Good w){a:Nat}(ha:a<w.1):nrL w a=nb w.2 a:=by
 have p:(nrL w a).Perm (nb w.2 a):=(fR (cZ.filter _) (g.IS a)).mpr λ x=>g.Pd;have s1:((nrL w a).map λ(k:Nat)=>(k:Int)).Pairwise (·<=·):=by rw[bq];refine fG _ ?_;exact(fh (n:=w.1)).imp λ h=>by lia
 have e:=(p.map λ(k:Nat)=>(k:Int)).eq_of_pairwise (λ _ _ _ _ h1 h2=>Int.le_antisymm h1 h2) s1 (by rw[<-IB];exact pG _);have:((nrL w a).map λ(k:Nat)=>(k:Int)).map Int.toNat=((nb w.2 a).map λ(k:Nat)=>(k:Int)).map Int.toNat:=by rw[e]
 rw[aU,aU]at this;have e:(Int.toNat∘λ(k:Nat)=>(k:Int))=id:=by funext k;simp
 rw[e,cY,cY]at this;exact this
theorem JO {w:Web}(g:Good w){a:Nat}(ha:a<w.1):kR [h_ w,gR a]=My (.lst ((nb w.2 a).map gR)):=by rw[<-g.RF ha];show(dW (h_ w)).bind (λ w=>(jU (gR a)).map λ p=>Dt.lst (((U8 w.1).filter λ o=>decide (xT p o∈w.2)).map gR))=_;rw[mC g,jj];rfl
def lwE:DE->gJ Dt:=iM si (gP (gLC ["_law_other"] [1] (gI jE (hG 2 kR (gP (gT 2) (gP (gT 0) gS)))) (ggN 0) jd (g_ dIx (gT 1) (gT 0))) gS)
theorem GY {w:Web}(hg:Good w){l:List Nat}(hl:l.length=w.1) :
  rX (ggN 0) jd lwE [U5,My (.lst (l.map gR)),My (h_ w)] ((U8 w.1).map gR)=My ((kZ w l).map gR):=by
 have hn:∀ p<w.1,∀ j∈nb w.2 p,j<w.1:=λ p _ j hj=>(hg.qm hj).1;have inner:∀ p<w.1,lwE [My (gR p),My (.lst (l.map gR)),My (h_ w)]=My (gR ((nb w.2 p).map λ j=>l.getD j 0).sum):=λ p hp=>by
  have lc2:=jo (enc:=gR) (gg:=ggN 0) (ge:=g_ dIx (gT 1) (gT 0)) (δc:=[U5,My (.lst (l.map gR))]) (δa:=λ j=>[My (gR j),My (.lst (l.map gR))]) (enc':=λ j=>gR (l.getD j 0)) (nb w.2 p) λ j hj=>⟨rfl,by have:=wu (l:=l) (j:=j) (by rw[hl];exact hn p hp j hj);generalize l.map gR=zs at this ⊢;simp only[gR]at this;simp[gR,this]⟩
  have e6:(nb w.2 p).map (λ j=>gR (l.getD j 0))=(((nb w.2 p).map λ j=>l.getD j 0).map λ(x:Nat)=>(x:Int)).map Dt.int:=by simp[gR,br]
  rw[e6]at lc2;have e7:si [.lst ((((nb w.2 p).map λ j=>l.getD j 0).map λ(x:Nat)=>(x:Int)).map Dt.int)]=My (gR ((nb w.2 p).map λ j=>l.getD j 0).sum):=by show(mM _).map _=_;rw[nE,cq,u3]
  have e8:=JO hg hp;have e9:(nb w.2 p).length<=1000:=by have:=D3 w.2 p;have:=hg.len;lia
  generalize ((((nb w.2 p).map λ j=>l.getD j 0).map λ(x:Nat)=>(x:Int)).map Dt.int)=us at lc2 e7;generalize l.map gR=zs at lc2 ⊢;have e9:((nb w.2 p).map gR).length<=1000:=by rw[ah];exact e9
  generalize (nb w.2 p).map gR=vs at lc2 e8 e9;generalize h_ w=ww at *;simp only[gR]at e8;simp[lwE,gR,e8,lc2,e7,e9]
 have lc3:=jo (enc:=gR) (gg:=ggN 0) (ge:=lwE) (δc:=[U5,My (.lst (l.map gR)),My (h_ w)]) (δa:=λ p=>[My (gR p),My (.lst (l.map gR)),My (h_ w)]) (enc':=λ p=>gR ((nb w.2 p).map λ j=>l.getD j 0).sum) (U8 w.1) λ p hp=>⟨rfl,inner p (aC.mp hp)⟩;rw[lc3];simp[kZ,br]
def lwB:DE->gJ RD:=(jB 4 (gLC ["_law_place"] [4,0] (jJ (gP (g_ dIx (gT 0) (gC (.int 0))) gS)) (ggN 0) jd lwE))
theorem yn {w:Web}(hg:Good w)(a b k0:Dt)(a0:Nat):∀ (ns:List Nat) (k:Nat) (o:gJ Dt),
  ∃ o',kO (ggN 5) lwB [My (h_ w),My a,My b,My k0,My (.lst ((kL w a0 k).map gR)),o] (ns.map gR) =
   My (.nx [My (h_ w),My a,My b,My k0,My (.lst ((kL w a0 (k+ns.length)).map gR)),o'])
 | [],k,o=>⟨o,rfl⟩
 | n::r,k,o=>by
  obtain⟨o',ih⟩:=yn hg a b k0 a0 r (k+1) (My (gR n));refine⟨o',?_⟩;have h8:=hg.mv;have ix:dIx (h_ w) (.int 0)=My (gR w.1):=rfl;have e12:oE [gR w.1]=My ((U8 w.1).map gR):=jF (n:=w.1) (by lia);have e13:((U8 w.1).map gR).length<=1000:=by simp;lia
  have tn:=GY hg (tZ w a0 k);have e1:k+(n::r).length=k+1+r.length:=by simp;lia
  rw[e1,<-ih];have e2:kL w a0 (k+1)=kZ w (kL w a0 k):=rfl;rw[e2];have st:lwB [My (h_ w),My a,My b,My k0,My (.lst ((kL w a0 k).map gR)),My (gR n)]=My (.nx [My (h_ w),My a,My b,My k0,My (.lst ((kZ w (kL w a0 k)).map gR)),My (gR n)]):=by unfold lwB;generalize (U8 w.1).map gR=ls at tn e12 e13;generalize (kZ w (kL w a0 k)).map gR=us at tn ⊢;generalize (kL w a0 k).map gR=zs at tn ⊢;generalize gR w.1=w1,h_ w=ww,lwE=E at *;simp[ix,e12,e13,tn]
  rw[aI];generalize r.map gR=rs;generalize lwB=B at *;simp[kO,ggN,st]
def oy:List Dt->gJ Dt
 | [x,y,z,u]=>(dW x).bind λ w=>(jU y).bind λ a=>(jU z).bind λ b=>(jU u).bind λ k=>if a<w.1/\b<w.1/\k<=30 then My (gR (wy w k a b)) else U5
 | _=>U5
def oz:DE->gJ RD:=(jc (jB 4 (gLC ["_law_other"] [2] (jJ (gP (g_ dIx (gT 0) (gC (.int 0))) gS)) (ggN 0) jd (iM vD (gP (g_ lx (gT 0) (gT 1)) gS)))) (jc (rY (jJ (gP (gT 3) gS)) (ggN 5) lwB) (kc (g_ dIx (gT 4) (gT 1)))))
set_option tactic.hygienic true in
theorem Br:Hg 4 ["_law_web_here","_law_a","_law_b","_law_steps","_law_here","_law_turn"] oy oz:=by
 intro ds d hl h;match ds,h with
 | [x,y,z,u],h =>
  obtain⟨w,e1,h⟩:=gU (show(dW x).bind _=_ from h);obtain⟨a,e2,h⟩:=gU h;obtain⟨b,e3,h⟩:=gU h;obtain⟨k,e4,h⟩:=gU h;split at h
  ·rename_i hc
   cases h;obtain⟨rfl,hg⟩:=oF e1;rw[ju e2,ju e3,ju e4];refine⟨.rt (gR (wy w k a b)),?_,rfl⟩;have h8:=hg.mv;have lc:=jo (enc:=gR) (gg:=ggN 0) (ge:=iM vD (gP (g_ lx (gT 0) (gT 1)) gS)) (δc:=[U5,My (gR b)]) (δa:=λ i=>[My (gR i),My (gR b)]) (enc':=λ i=>gR (if i=b then 1 else 0)) (U8 w.1) λ i _=>⟨rfl,by
    have q:lx (gR i) (gR b)=My (.bl (decide (i=b))):=by show My (Dt.bl ((i:Int)==(b:Int)))=_;rw[ma];rfl
    generalize gR b=nb,hn:gR i=ni at *;by_cases hi:i=b
    ·rw[decide_eq_true hi]at q;simp[q,hi,gR]
    ·rw[decide_eq_false hi]at q;simp[q,hi,gR]⟩
   have e5:(U8 w.1).map (λ i=>gR (if i=b then 1 else 0))=(kL w b 0).map gR:=by simp[kL,br]
   rw[e5]at lc;obtain⟨o',lp⟩:=yn hg (gR a) (gR b) (gR k) b (U8 k) 0 U5;rw[show 0+(U8 k).length=k by simp]at lp;have fin:=wu (l:=kL w b k) (j:=a) (by rw[tZ];exact hc.1);rw[hg.A8 b k a hc.1,<-hg.OZ k hc.1 hc.2.1]at fin;have fin:dIx (.lst ((kL w b k).map gR)) (gR a)=My (gR (wy w k a b)):=fin;have ix:dIx (h_ w) (.int 0)=My (gR w.1):=rfl;have e12:oE [gR w.1]=My ((U8 w.1).map gR):=jF (n:=w.1) (by lia);have e13:((U8 w.1).map gR).length<=1000:=by simp;lia
   have e14:oE [gR k]=My ((U8 k).map gR):=jF (n:=k) (by lia);show oz [My (h_ w),My (gR a),My (gR b),My (gR k),U5,U5]=_;unfold oz;generalize (U8 w.1).map gR=ns at lc e12 e13;generalize gR k=nk,gR b=nb,gR a=na,gR w.1=w1,h_ w=ww,gR (wy w k a b)=res,lwB=B,(kL w b k).map gR=vs,(kL w b 0).map gR=us,(U8 k).map gR=ks at *;simp[ix,e12,e13,lc,e14,lp,fin]
  ·cases h
theorem yo (c:Nat)(f:Nat->Nat):∀ l:List Nat,c*(l.map f).sum=(l.map λ x=>c*f x).sum
 | []=>by simp
 | x::r=>by rw[aI,cQ,aI,cQ,Nat.mul_add,yo c f r]
section
variable {w:Web}(g:Good w)
include g
theorem Good.JP (k:Nat){p e:Nat}(hp:p<w.1)(he:e<w.1):ch w (k+1) p e=wt w p*((nb w.2 p).map λ q=>ch w k q e).sum:=by have dp:0<dg w p:=g.wz p hp;refine Nat.eq_of_mul_eq_mul_left dp ?_;rw[g.IU (k+1) hp he,<-g.qV k e p,yo,<-eh,dM (dg w p) (wt w p),g.sO hp,yo];congr 1;refine bR λ q hq=>?_;have hq1:=(g.qm hq).1;rw[Nat.mul_left_comm,g.IU k he hq1,<-eh,g.sO hq1]
end
theorem Bs {c N M:Nat}(h:0<N)(hN:N<2 ^ 1900)(hM:M<2 ^ 1900)(hc:c<=M):sm (fr c N):=by obtain⟨_,h2,h3⟩:=Eb (c:=c) h;exact⟨by lia,by lia⟩
theorem FK {N M:Nat}(h:0<N)(hN:N<2 ^ 1900)(hM:M<2 ^ 1900):∀ (cs:List Nat) (x:Nat),x+cs.sum<=M->tT (fr x N) (cs.map λ c=>fr c N)=My (fr (x+cs.sum) N)
 | [],x,_=>by simp[tT]
 | c::r,x,hx=>by rw[cQ]at hx;rw[aI,tT,ai ⟨Bs h hN hM (by lia),Bs h hN hM (by lia)⟩,Ea h,FK h hN hM r (x+c) (by lia),cQ,Nat.add_assoc]
def BQ (w:Web)(k e:Nat):List Rat:=(U8 w.1).map λ p=>fr (ch w k p e) (420 ^ k)
theorem JQ (w:Web)(k e:Nat):(BQ w k e).length=w.1:=by simp[BQ]
theorem Ny {w:Web}(k e:Nat){p:Nat}(hp:p<w.1):(BQ w k e).getD p 0=fr (ch w k p e) (420 ^ k):=by unfold BQ;rw[aq,aH,cL hp];rfl
theorem FL {l:List Rat}{j:Nat}(h:j<l.length):dIx (.lst (l.map hV)) (gR j)=My (hV (l.getD j 0)):=by show atI (l.map hV) (j:Int)=_;refine lJ ?_;rw[aH,aq,aA h];rfl
def laE:DE->gJ Dt:=(hG 2 nh (gP (hG 1 nu (gP (gLC ["_law_other"] [1] (gI jE (gT 0)) (ggN 0) jd (g_ dIx (gT 1) (gT 0))) gS)) (gP (iX (gP (gC (.int 1)) (gP (iM pE (gP (gT 0) gS)) gS))) gS)))
theorem JR {d:Nat}(h:0<d):hV (fr 1 d)=.tup [.int 1,.int d]:=by obtain⟨h1,h2⟩:=sH (a:=1) (b:=(d:Int)) (by lia) (by simp[Int.gcd]);show Dt.tup [.int (fr 1 d).num,.int (fr 1 d).den]=_;have e1:(fr 1 d).num=1:=h1;have e2:((fr 1 d).den:Int)=d:=h2;rw[e1,e2]
section
variable {w:Web}(g:Good w)
include g
theorem Good.PN {k e p:Nat}(hk:k<=30)(he:e<w.1)(hp:p<w.1):laE [My (.lst ((nb w.2 p).map gR)),My (.lst ((BQ w k e).map hV))]=My (hV (fr (ch w (k+1) p e) (420 ^ (k+1)))):=by
 have d0:0<dg w p:=g.wz p hp;have d7:dg w p<=7:=g.D_ p hp;have N0:=nP k;have N1:=Ee (show k<=31 by lia);have M1:7*420 ^ k<2 ^ 1900:=by
  have a:420 ^ k<=420 ^ 30:=cR (by decide) hk;have b:7*420 ^ 30<2 ^ 1900:=by decide +kernel
  lia
 have hs:((nb w.2 p).map λ q=>ch w k q e).sum<=7*420 ^ k:=by
  have:∀ l:List Nat,(∀ q∈l,q<w.1)->(l.map λ q=>ch w k q e).sum<=l.length*420 ^ k:=λ l=>by
   induction l with
   | nil=>intro _;simp
   | cons x r ih =>intro h;rw[aI,cQ,bf,Nat.succ_mul];have:=ih λ q hq=>h q (ay _ hq);have:=g.FC k (h x aB) he;lia
  have h1:=this (nb w.2 p) λ q hq=>(g.qm hq).1;have h2:(nb w.2 p).length*420 ^ k<=7*420 ^ k:=Nat.mul_le_mul_right _ d7;lia
 have lc2:=jo (enc:=gR) (gg:=ggN 0) (ge:=g_ dIx (gT 1) (gT 0)) (δc:=[U5,My (.lst ((BQ w k e).map hV))]) (δa:=λ j=>[My (gR j),My (.lst ((BQ w k e).map hV))]) (enc':=λ j=>hV (fr (ch w k j e) (420 ^ k))) (nb w.2 p) λ j hj=>⟨rfl,by have hj1:=(g.qm hj).1;have:=FL (l:=BQ w k e) (j:=j) (by rw[JQ];exact hj1);rw[Ny k e hj1]at this;generalize (BQ w k e).map hV=zs at this ⊢;generalize hV (fr (ch w k j e) (420 ^ k))=r,gR j=nj at *;simp[this]⟩
 have e6:(nb w.2 p).map (λ j=>hV (fr (ch w k j e) (420 ^ k)))=(((nb w.2 p).map λ q=>ch w k q e).map λ c=>fr c (420 ^ k)).map hV:=by rw[aU,aU];rfl
 rw[e6]at lc2;have tt:nu [.lst ((((nb w.2 p).map λ q=>ch w k q e).map λ c=>fr c (420 ^ k)).map hV)]=My (hV (fr ((nb w.2 p).map λ q=>ch w k q e).sum (420 ^ k))):=by have t:=FK N0 N1 M1 ((nb w.2 p).map λ q=>ch w k q e) 0 (by lia);rw[rL,Nat.zero_add]at t;show(dQs _).bind (λ l=>(tT 0 l).map hV)=_;rw[AV,ak,t];rfl
 have d1900:dg w p<2 ^ 1900:=bN d7 (by decide +kernel);have tm:=Mp (x:=fr ((nb w.2 p).map λ q=>ch w k q e).sum (420 ^ k)) (y:=fr 1 (dg w p)) (Bs N0 N1 M1 hs) (Bs (M:=7) d0 d1900 (by decide +kernel) (by lia));have ev:fr ((nb w.2 p).map λ q=>ch w k q e).sum (420 ^ k)*fr 1 (dg w p)=fr (ch w (k+1) p e) (420 ^ (k+1)):=by
  have w0:0<wt w p:=by
   have:=g.sO hp;cases h:wt w p with
   | zero=>rw[h,Nat.zero_mul]at this;lia
   | succ n=>lia
  rw[IY,Nat.mul_one,<-xU (k:=wt w p) w0,g.JP k hp he,dM _ (wt w p),eh,dM (dg w p),g.sO hp,eu]
 rw[ev,JR d0]at tm;have ln:pE [.lst ((nb w.2 p).map gR)]=My (.int (dg w p)):=by show My (Dt.int (((nb w.2 p).map gR).length:Nat))=_;rw[ah];rfl
 have e9:((nb w.2 p).map gR).length<=1000:=by rw[ah];have:(nb w.2 p).length<=7:=d7;lia
 generalize ((dg w p:Nat):Int)=dd,(nb w.2 p).map gR=vs,(BQ w k e).map hV=zs,hV (fr (ch w (k+1) p e) (420 ^ (k+1)))=q2,hV (fr ((nb w.2 p).map λ q=>ch w k q e).sum (420 ^ k))=q1,((((nb w.2 p).map λ q=>ch w k q e).map λ c=>fr c (420 ^ k)).map hV)=us at *;simp[laE,lc2,tt,tm,ln,e9]
end
def la0:DE->gJ RD:=(jB 5 (gLC ["_law_other"] [4] (jJ (gP (g_ dIx (gT 0) (gC (.int 0))) gS)) (ggN 0) jd (iX (gP (iM vD (gP (g_ lx (gT 0) (gT 1)) gS)) (gP (gC (.int 1)) gS)))))
def laT:DE->gJ RD:=(jc (jB 7 (gLC ["_law_other"] [0] (jJ (gP (g_ dIx (gT 0) (gC (.int 0))) gS)) (ggN 0) jd (hG 2 kR (gP (gT 1) (gP (gT 0) gS))))) (jB 5 (gLC ["_law_some"] [5] (gI jE (gT 7)) (ggN 0) jd laE)))
def la1:DE->gJ RD:=(rY (jJ (gP (gT 2) gS)) (ggN 6) laT)
def C6 (w:Web):List Dt:=(U8 w.1).map λ o=>.lst ((nb w.2 o).map gR)
section
variable {w:Web}(g:Good w)
include g
theorem Good.JS {e:Nat}(he:e<w.1)(x1 x2 x3 x5 x6 x7:gJ Dt):la0 [My (h_ w),x1,x2,x3,My (gR e),x5,x6,x7]=My (.nx [My (h_ w),x1,x2,x3,My (gR e),My (.lst ((BQ w 0 e).map hV)),x6,x7]):=by
 have h8:=g.mv;have lc:=jo (enc:=gR) (gg:=ggN 0) (ge:=iX (gP (iM vD (gP (g_ lx (gT 0) (gT 1)) gS)) (gP (gC (.int 1)) gS))) (δc:=[U5,My (gR e)]) (δa:=λ i=>[My (gR i),My (gR e)]) (enc':=λ i=>hV (fr (ch w 0 i e) (420 ^ 0))) (U8 w.1) λ i _=>⟨rfl,by
  have q:lx (gR i) (gR e)=My (.bl (decide (i=e))):=by show My (Dt.bl ((i:Int)==(e:Int)))=_;rw[ma];rfl
  have c:ch w 0 i e=if i=e then 1 else 0:=by
   show(if e=i then 1 else 0)=_;by_cases h:i=e
   ·rw[ai h,ai h.symm]
   ·rw[au h,au (aZ h)]
  rw[c];generalize gR e=ne,gR i=ni at *;by_cases hi:i=e
  ·rw[decide_eq_true hi]at q;rw[ai hi];have:hV (fr 1 (420 ^ 0))=.tup [.int 1,.int 1]:=JR (d:=1) (by lia);rw[this];simp[q]
  ·rw[decide_eq_false hi]at q;rw[au hi,rL];have:hV 0=.tup [.int 0,.int 1]:=rfl;rw[this];simp[q]⟩
 have e5:(U8 w.1).map (λ i=>hV (fr (ch w 0 i e) (420 ^ 0)))=(BQ w 0 e).map hV:=by unfold BQ;rw[aU];rfl
 rw[e5]at lc;have ix:dIx (h_ w) (.int 0)=My (gR w.1):=rfl;have e12:oE [gR w.1]=My ((U8 w.1).map gR):=jF (n:=w.1) (by lia);have e13:((U8 w.1).map gR).length<=1000:=by simp;lia
 unfold la0;generalize gR e=ne,gR w.1=w1,h_ w=ww,(BQ w 0 e).map hV=us,(U8 w.1).map gR=ns at *;simp[ix,e12,e13,lc]
theorem Good.PR {k e:Nat}(hk:k<=30)(he:e<w.1)(x1 x2 x3 x4 x6 x7:gJ Dt):laT [My (h_ w),x1,x2,x3,x4,My (.lst ((BQ w k e).map hV)),x6,x7]=My (.nx [My (h_ w),x1,x2,x3,x4,My (.lst ((BQ w (k+1) e).map hV)),x6,My (.lst (C6 w))]):=by
 have h8:=g.mv;have lc:=jo (enc:=gR) (gg:=ggN 0) (ge:=hG 2 kR (gP (gT 1) (gP (gT 0) gS))) (δc:=[U5,My (h_ w)]) (δa:=λ i=>[My (gR i),My (h_ w)]) (enc':=λ o=>.lst ((nb w.2 o).map gR)) (U8 w.1) λ i hi=>⟨rfl,by have:=JO g (aC.mp hi);generalize gR i=ni,h_ w=ww at *;simp[this]⟩
 have lc:rX (ggN 0) jd (hG 2 kR (gP (gT 1) (gP (gT 0) gS))) [U5,My (h_ w)] ((U8 w.1).map gR)=My (C6 w):=lc;have lc2:=jo (enc:=λ o=>Dt.lst ((nb w.2 o).map gR)) (gg:=ggN 0) (ge:=laE) (δc:=[U5,My (.lst ((BQ w k e).map hV))]) (δa:=λ o=>[My (.lst ((nb w.2 o).map gR)),My (.lst ((BQ w k e).map hV))]) (enc':=λ p=>hV (fr (ch w (k+1) p e) (420 ^ (k+1)))) (U8 w.1) λ i hi=>⟨rfl,g.PN hk he (aC.mp hi)⟩;have lc2:rX (ggN 0) jd laE [U5,My (.lst ((BQ w k e).map hV))] (C6 w)=My ((BQ w (k+1) e).map hV):=by unfold C6;rw[lc2];unfold BQ;rw[aU];rfl
 have ix:dIx (h_ w) (.int 0)=My (gR w.1):=rfl;have e12:oE [gR w.1]=My ((U8 w.1).map gR):=jF (n:=w.1) (by lia);have e13:((U8 w.1).map gR).length<=1000:=by simp;lia
 have e14:(C6 w).length<=1000:=by simp[C6];lia
 unfold laT;generalize gR w.1=w1,h_ w=ww,laE=E,C6 w=bs,(BQ w k e).map hV=zs,(BQ w (k+1) e).map hV=us,(U8 w.1).map gR=ns at *;simp[ix,e12,e13,lc,e14,lc2]
theorem Good.Ew {e:Nat}(he:e<w.1)(x1 x2 x3 x4:gJ Dt):∀ (ns:List Nat) (k:Nat) (x6 x7:gJ Dt),k+ns.length<=30->∃ y6 y7,kO (ggN 6) laT [My (h_ w),x1,x2,x3,x4,My (.lst ((BQ w k e).map hV)),x6,x7] (ns.map gR)=My (.nx [My (h_ w),x1,x2,x3,x4,My (.lst ((BQ w (k+ns.length) e).map hV)),y6,y7])
 | [],k,x6,x7,_=>⟨x6,x7,rfl⟩
 | n::r,k,x6,x7,h=>by rw[bf]at h;have st:=g.PR (k:=k) (by lia) he x1 x2 x3 x4 (My (gR n)) x7;obtain⟨y6,y7,ih⟩:=Good.Ew he x1 x2 x3 x4 r (k+1) (My (gR n)) (My (.lst (C6 w))) (by lia);refine⟨y6,y7,?_⟩;rw[show k+(n::r).length=k+1+r.length by rw[bf];lia,<-ih,aI];generalize r.map gR=rs;generalize laT=T at *;simp[kO,ggN,st]
theorem Good.UW {e n:Nat}(he:e<w.1)(hn:n<=30)(x1 x3 x5 x6 x7:gJ Dt):∃ y6 y7,jc la0 la1 [My (h_ w),x1,My (gR n),x3,My (gR e),x5,x6,x7]=My (.nx [My (h_ w),x1,My (gR n),x3,My (gR e),My (.lst ((BQ w n e).map hV)),y6,y7]):=by have st:=g.JS he x1 (My (gR n)) x3 x5 x6 x7;obtain⟨y6,y7,fo⟩:=g.Ew he x1 (My (gR n)) x3 (My (gR e)) (U8 n) 0 x6 x7 (by simp;lia);rw[show 0+(U8 n).length=n by simp]at fo;refine⟨y6,y7,?_⟩;rw[nV st];have e14:oE [gR n]=My ((U8 n).map gR):=jF (n:=n) (by lia);unfold la1;rw[<-fo];generalize gR n=nn,laT=T,(U8 n).map gR=ns at *;simp[e14]
end
def pX:List Dt->gJ Dt
 | [x,y,z]=>(dW x).bind λ w=>(jU y).bind λ p=>(jU z).bind λ n=>if p<w.1/\n<=30 then My (.tup ((PQ w n p).map hV)) else U5
 | _=>U5
theorem Good.PU {w:Web}(g:Good w){e n:Nat}(he:e<w.1)(hn:n<=30)(x1 x3 x6 x7:gJ Dt):∃ y6 y7,la1 [My (h_ w),x1,My (gR n),x3,My (gR e),My (.lst ((BQ w 0 e).map hV)),x6,x7]=My (.nx [My (h_ w),x1,My (gR n),x3,My (gR e),My (.lst ((BQ w n e).map hV)),y6,y7]):=by obtain⟨y6,y7,fo⟩:=g.Ew he x1 (My (gR n)) x3 (My (gR e)) (U8 n) 0 x6 x7 (by simp;lia);rw[show 0+(U8 n).length=n by simp]at fo;refine⟨y6,y7,?_⟩;have e14:oE [gR n]=My ((U8 n).map gR):=jF (n:=n) (by lia);unfold la1;rw[<-fo];generalize gR n=nn,laT=T,(U8 n).map gR=ns at *;simp[e14]
end L2
namespace K11
open PySem PySem.Spec PyProof.Rows L2 Zp
def top (i:Nat):Stmt:=PySem.Challenge.pw_treewalkers_k11_behind_so_many_steps.main.body.getD i (.Pass ⟨0,0,0,0⟩)
abbrev yp:Stmt:=top 20
abbrev o9:Stmt:=top 21
abbrev yq:Stmt:=top 22
abbrev JT:Stmt:=top 23
abbrev FN:Stmt:=top 24
abbrev FO:Stmt:=top 25
abbrev yr:Stmt:=top 29
abbrev C7:Stmt:=top 30
abbrev vE:Stmt:=top 31
abbrev Ab:Stmt:=top 32
abbrev vF:Stmt:=top 33
abbrev Ac:Stmt:=top 34
abbrev C8:Stmt:=top 35
abbrev vG:Stmt:=top 36
abbrev su:Stmt:=top 37
abbrev sv:Stmt:=top 40
abbrev mT:Stmt:=top 41
abbrev FP:Stmt:=top 42
abbrev JU:Stmt:=top 43
abbrev qZ:Stmt:=top 45
abbrev yt:Stmt:=top 46
abbrev vH:Stmt:=top 47
abbrev uv:Stmt:=top 48
abbrev mU:Stmt:=top 49
abbrev Ad:Stmt:=top 50
abbrev vI:Stmt:=top 51
abbrev uw:Stmt:=top 52
abbrev ux:Stmt:=top 53
abbrev vJ:Stmt:=top 54
abbrev yu:Stmt:=top 55
abbrev sx:Stmt:=top 56
abbrev sy:Stmt:=top 57
abbrev sS:Stmt:=top 58
abbrev ir:Stmt:=top 59
abbrev kE:Stmt:=top 60
abbrev vK:Stmt:=top 61
abbrev uy:Stmt:=top 62
abbrev vL:Stmt:=top 63
abbrev q_:Stmt:=top 64
theorem C9:il ["thing"] ["thing"] (gY yp):=by trivial
theorem mj:il ["a","b"] ["a","b"] (gY o9):=by trivial
theorem vM:il ["top","bottom","divisor"] ["top","bottom"] (gY yq):=by trivial
theorem Mt:il ["one","other"] ["one","other"] (gY JT):=by trivial
theorem JV:il ["one","other"] ["one","other"] (gY FN):=by trivial
theorem yv:il ["fractions","whole","one"] ["fractions"] (gY FO):=by trivial
theorem C_:il ["many","thing"] ["many","thing"] (gY yr):=by trivial
theorem GZ:il ["many","thing","a","b"] ["many","thing"] (gY C7):=by trivial
theorem Bt:il ["things"] ["things"] (gY vE):=by trivial
theorem sT:il ["ties","place","lesser","greater"] ["ties","place"] (gY Ab):=by trivial
theorem ml:il ["ties","start","found","edge","beyond","place","near"] ["ties","start"] (gY vF):=by trivial
theorem Ex:il ["web","many","ties"] ["web"] (gY Ac):=by trivial
theorem G0:il ["thing","many","ties"] ["thing"] (gY C8):=by trivial
theorem Bu:il ["thing"] ["thing"] (gY vG):=by trivial
theorem yw:il ["web","thing"] ["web","thing"] (gY su):=by trivial
theorem yy:il ["thing","most"] ["thing","most"] (gY sv):=by trivial
theorem mw:il ["web","shares","many","ties","going"] ["web","shares"] (gY mT):=by trivial
theorem yz:il ["web","place","steps","shares","step"] ["web","place","steps"] (gY FP):=by trivial
theorem Bv:il ["web","a","b","steps","many","ties","numbers","step"] ["web","a","b","steps"] (gY JU):=by trivial
theorem v9:il ["_law_script","_law_k"] ["_law_script","_law_k"] (gY qZ):=by trivial
theorem mV:il ["_law_cell","_law_number","_law_j","_law_mixed"] ["_law_cell"] (gY yt):=by trivial
theorem uz:il ["_law_pot_here","_law_far","_law_found"] ["_law_pot_here","_law_far"] (gY vH):=by trivial
theorem zk:il ["_law_found"] ["_law_found"] (gY uv):=by trivial
theorem la:il ["_law_e","_law_some","_law_words"] ["_law_e"] (gY mU):=by trivial
theorem pY:il ["_law_top","_law_bottom","_law_one","_law_other"] ["_law_top","_law_bottom"] (gY Ad):=by trivial
theorem Bw:il ["_law_one","_law_other"] ["_law_one","_law_other"] (gY vI):=by trivial
theorem zl:il ["_law_one","_law_other"] ["_law_one","_law_other"] (gY uw):=by trivial
theorem oH:il ["_law_some","_law_found","_law_one"] ["_law_some"] (gY ux):=by trivial
theorem Bx:il ["_law_web_here","_law_place"] ["_law_web_here","_law_place"] (gY vJ):=by trivial
theorem rb:il ["_law_many","_law_ties","_law_first","_law_found","_law_turn","_law_one","_law_other"] ["_law_many","_law_ties","_law_first"] (gY yu):=by trivial
theorem yA:il ["_law_many","_law_thing"] ["_law_many","_law_thing"] (gY sx):=by trivial
theorem yB:il ["_law_thing"] ["_law_thing"] (gY sy):=by trivial
theorem jA:il ["_law_pot_here","_law_most","_law_thick","_law_many","_law_shape","_law_extra","_law_left","_law_called","_law_ties","_law_place","_law_drawn_one","_law_turn","_law_one","_law_other"] ["_law_pot_here","_law_most","_law_thick"] (gY sS):=by trivial
theorem iR:il ["_law_pot_here","_law_web_here","_law_many","_law_ties","_law_at","_law_which","_law_odd","_law_one","_law_other","_law_tie","_law_bent_here","_law_some"] ["_law_pot_here","_law_web_here"] (gY ir):=by trivial
theorem vc:il ["_law_pot_here","_law_web_here"] ["_law_pot_here","_law_web_here"] (gY kE):=by trivial
theorem By:il ["_law_door","_law_web_here","_law_a","_law_b","_law_steps","_law_e"] ["_law_door","_law_web_here","_law_a","_law_b","_law_steps"] (gY vK):=by trivial
theorem lE:il ["_law_web_here","_law_place","_law_steps","_law_found","_law_end","_law_here","_law_turn","_law_beside"] ["_law_web_here","_law_place","_law_steps"] (gY uy):=by trivial
theorem pZ:il ["_law_web_here","_law_a","_law_b","_law_steps","_law_here","_law_turn"] ["_law_web_here","_law_a","_law_b","_law_steps"] (gY vL):=by trivial
theorem mD:il ["_law_script","_law_k","_law_pot_here","_law_web_here","_law_steps","_law_a","_law_b","_law_none","_law_far","_law_due","_law_lap","_law_told","_law_bent_here"] ["_law_script"] (gY q_):=by trivial
set_option genInjectivity false in
set_option genSizeOf false in
structure Txt (K:gK)(mg:gG) where
 nX:FnT K mg "is_whole" yp ["thing"]
 mE:FnT K mg "common_divisor" o9 ["a","b"]
 p_:FnT K mg "fraction" yq ["top","bottom"]
 Ey:FnT K mg "plus" JT ["one","other"]
 Bz:FnT K mg "times" FN ["one","other"]
 BA:FnT K mg "total" FO ["fractions"]
 nY:FnT K mg "is_place" yr ["many","thing"]
 yC:FnT K mg "is_tie" C7 ["many","thing"]
 rf:FnT K mg "is_rising" vE ["things"]
 nI:FnT K mg "tied_to" Ab ["ties","place"]
 rg:FnT K mg "distances" vF ["ties","start"]
 vd:FnT K mg "degrees" Ac ["web"]
 yD:FnT K mg "is_web" C8 ["thing"]
 oA:FnT K mg "check_web" vG ["thing"]
 lG:FnT K mg "check_place" su ["web","thing"]
 mJ:FnT K mg "check_steps" sv ["thing","most"]
 kU:FnT K mg "shares_behind_step" mT ["web","shares"]
 wL:FnT K mg "after" FP ["web","place","steps"]
 BB:FnT K mg "ways" JU ["web","a","b","steps"]
 nZ:FnT K mg "_law_cell_at" qZ ["_law_script","_law_k"]
 sU:FnT K mg "_law_pot" yt ["_law_cell"]
 iJ:FnT K mg "_law_take" vH ["_law_pot_here","_law_far"]
 nC:FnT K mg "_law_whole" uv ["_law_found"]
 oB:FnT K mg "_law_word" mU ["_law_e"]
 rT:FnT K mg "_law_fr" Ad ["_law_top","_law_bottom"]
 rh:FnT K mg "_law_plus" vI ["_law_one","_law_other"]
 qa:FnT K mg "_law_times" uw ["_law_one","_law_other"]
 qb:FnT K mg "_law_total" ux ["_law_some"]
 oC:FnT K mg "_law_near" vJ ["_law_web_here","_law_place"]
 sV:FnT K mg "_law_met" yu ["_law_many","_law_ties","_law_first"]
 oJ:FnT K mg "_law_is_tie" sx ["_law_many","_law_thing"]
 oK:FnT K mg "_law_is_web" sy ["_law_thing"]
 qc:FnT K mg "_law_web" sS ["_law_pot_here","_law_most","_law_thick"]
 ja:FnT K mg "_law_bent" ir ["_law_pot_here","_law_web_here"]
 kF:FnT K mg "_law_no_place" kE ["_law_pot_here","_law_web_here"]
 jW:FnT K mg "_law_said" vK ["_law_door","_law_web_here","_law_a","_law_b","_law_steps"]
 qe:FnT K mg "_law_after" uy ["_law_web_here","_law_place","_law_steps"]
 rl:FnT K mg "_law_ways" vL ["_law_web_here","_law_a","_law_b","_law_steps"]
 yE:FnT K mg "law" q_ ["_law_script"]
 ie:mg "isinstance"=U5
 rm:mg "len"=U5
 FQ:mg "all"=U5
 FR:mg "abs"=U5
 JW:mg "min"=U5
 JX:mg "max"=U5
 Nz:mg "sum"=U5
 rn:mg "sorted"=U5
 lK:mg "tuple"=U5
 Ae:mg "int"=U5
 JY:mg "bool"=U5
 jh:mg "range"=U5
 NA:mg "zip"=U5
 NB:mg "set"=U5
 yF:mg "list"=U5
 JZ:mg "repr"=U5
 BC:mg "ValueError"=U5
 J0:CtT K mg "ZERO" xF
 RG:CtT K mg "ONE" Iv
 v_:CtT K mg "FEWEST_PLACES" (.int 2)
 zm:CtT K mg "MOST_PLACES" (.int 8)
 uA:CtT K mg "MOST_STEPS" (.int 30)
 er:zd K mg
section
variable {P:Program}{w:World}{K:gK}{mg:gG}{base:Heap}
theorem qf (T:Txt K mg):OkT P w base T.nX 1 (spD K 1 jV):=T.nX.okD (g:=qW) C9 (λ _ _ _ _ _ _ hr=>(ik (iQ (xy (iL oG T.ie boot_isinstance (gQ (dv 0) (gQ (yT T.Ae boot_int) gX))) (zI (M6 (iL oG T.ie boot_isinstance (gQ (dv 0) (gQ (yT T.JY boot_bool) gX))))))))) uo
theorem qg (T:Txt K mg):OkT P w base T.nY 2 (spD K 2 lS):=T.nY.okD (g:=mR) C_ (λ _ _ _ _ _ _ hr=>(ik (iQ (xy (dC T.nX (qf T) hr (gQ (dv 1) gX)) (zI (K8 Cg Ie hX (dv 1) (dv 0))))))) Bc
theorem Ez (T:Txt K mg):OkT P w base T.yC 3 (spD K 2 nH):=T.yC.okD (g:=lT) GZ (λ _ _ _ _ _ _ hr=>(iq (om (yU (qk (kJ (lj (iL oG T.ie boot_isinstance (gQ (dv 1) (gQ (yT T.lK boot_tuple) gX))))) (pB (jZ (DW (ip hr)) (iL zK T.rm cB (gQ (dv 1) gX)) hX)))) (ik (iQ tI)) jT) (iq (uW (dv 1) (mW rfl (iZ (pgo 2) (iZ (pgo 3) lI))) l8) (ik (iQ (xy (dC T.nY (qg T) hr (gQ (dv 0) (gQ (dv 2) gX))) (xy (dC T.nY (qg T) hr (gQ (dv 0) (gQ (dv 3) gX))) (zI (sf Ie (dv 2) (dv 3)))))))))) Ep
theorem qh (T:Txt K mg):OkT P w base T.nI 1 (spD K 2 jq):=T.nI.okD (g:=rJ) sT (λ _ _ _ _ _ _ hr=>(iq (Cf (i:=2) sT.nd rfl (csc ["a","b"] ["place"] [1]) (l_ (dv 0)) (λ _ _ _ _=>(mW rfl (iZ (pgo 0) (iZ (pgo 1) lI)))) (qI (jX (by decide) (jX (by decide) oR))) l8 (λ _ _ _ _=>(AN (jZ (vU (ip hr)) (dv 1) (dv 2)))) (λ _ _ _ _=>(dv 0))) (iq (Cf (i:=3) sT.nd rfl (csc ["a","b"] ["place"] [1]) (l_ (dv 0)) (λ _ _ _ _=>(mW rfl (iZ (pgo 0) (iZ (pgo 1) lI)))) (qI (jX (by decide) (jX (by decide) oR))) l8 (λ _ _ _ _=>(AN (jZ (vU (ip hr)) (dv 0) (dv 2)))) (λ _ _ _ _=>(dv 1))) (ik (iQ (kN we T.lK boot_tuple (gQ (iL (Co srt qQ pG) T.rn boot_sorted (gQ (jt ql (dv 2) (dv 3)) gX)) gX))))))) D4
theorem EA (T:Txt K mg):OkT P w base T.vd 2 (spD K 1 rH):=T.vd.okD (g:=uY) Ex (λ _ _ _ _ _ _ hr=>(iq (uW (dv 0) (mW rfl (iZ (pgo 1) (iZ (pgo 2) lI))) l8) (ik (iQ (oV rfl (csc ["place"] ["ties"] [2]) (jK T.jh (gQ (dv 1) gX)) (λ _ _ _ _=>(pgo 0)) iO i9 (λ _ _ _ _=>j_) (λ _ _ _ _=>(iL zK T.rm cB (gQ (dC T.nI (qh T) hr (gQ (dv 1) (gQ (dv 0) gX))) gX)))))))) D5
theorem sA (T:Txt K mg):OkT P w base T.nC 1 (spD K 1 kB):=T.nC.okD (g:=ur) zk (λ _ _ _ _ _ _ hr=>(ik (iQ (xy (iL oG T.ie boot_isinstance (gQ (dv 0) (gQ (yT T.Ae boot_int) gX))) (zI (M6 (iL oG T.ie boot_isinstance (gQ (dv 0) (gQ (yT T.JY boot_bool) gX))))))))) zj
theorem yG (T:Txt K mg):OkT P w base T.oJ 2 (spD K 2 lD):=T.oJ.okD (g:=jv) yA (λ _ _ _ _ _ _ hr=>(iq (om (yU (qk (kJ (lj (iL oG T.ie boot_isinstance (gQ (dv 1) (gQ (yT T.lK boot_tuple) gX))))) (qk (jZ (DW (ip hr)) (iL zK T.rm cB (gQ (dv 1) gX)) hX) (pB (kJ (lj (iL (Fo rfl) T.FQ boot_all (gQ (oV rfl (csc ["_law_one"] [] []) (l_ (dv 1)) (λ _ _ _ _=>(pgo 0)) iO i9 (λ _ _ _ _=>j_) (λ _ _ _ _=>(dC T.nC (sA T) hr (gQ (dv 0) gX)))) gX)))))))) (ik (iQ tI)) jT) (ik (iQ (Jy Cg Ie Ie hX (jC (dv 1) hX) (jC (dv 1) hX) (dv 0)))))) yg
end
abbrev iV (k:Nat):V:=.int k
section
variable {P:Program}{w:World}{K:gK}{mg:gG}{base:Heap}
structure DH (H0 H:Hp)(p e b:Addr)(st:gN×List Nat)(iH:List Nat):Prop where
 same:g6 H0 H
 np:H0 p=U5
 ne':H0 e=U5
 nb:H0 b=U5
 pe:p≠e
 pb:p≠b
 eb:e≠b
 hp:H p=My (.dK (kvD (lM st.1)))
 he:H e=My (.lst (iH.map iV))
 hb:H b=My (.lst (st.2.map iV))
theorem DH.ext {H0 H H':Hp}{p e b:Addr}{st:gN×List Nat}{iH:List Nat}(h:DH H0 H p e b st iH)(s:g6 H H'):DH H0 H' p e b st iH :=
 ⟨h.same.trans s,h.np,h.ne',h.nb,h.pe,h.pb,h.eb,s _ _ h.hp,s _ _ h.he,s _ _ h.hb⟩
theorem jw {H0 H:Hp}{p:Addr}{o:HO}(s:g6 H0 H)(n:H0 p=U5):g6 H0 (upd H p o):=λ c u h=>by rw[hU (iP h n)];exact s c u h
def dbI (K:gK):TS:=NV (tB (ES (iG 6) (iG 2))) (jx (MW (iG 2) (iG 6) (tOp (rI0 λ i j=>V.int (i+j)) (MV (iG 2) (iG 5)) (tC (V.int 1)))) (BN (tBM K "list" tj (iG 4) (g0 (iG 6) i8)))) G_
def dbM (K:gK):TS:=Dp (iDT K (gI xA (hG 2 jq (gP (gT 0) (gP (gT 5) gS))))) (iW 6) (dbI K)
def dbW (K:gK):TS:=jx (lU (rV i8) (iW 4)) (jx (Dp (Hf K (iG 3)) (iW 5) (dbM K)) (lU (iG 4) (iW 3)))
def dtW (K:gK):TT:=λ σ H Q=>iG 3 σ H λ x H'=>∃ k,Kz K x H' k/\Q k H'
def dA (K:gK):TS:=jx (lU (MX [(iG 1,tC (V.int 0))]) (iW 2)) (jx (lU (rV (g0 (iG 1) i8)) (iW 3)) (jx (Dl (dtW K) (dbW K)) (BO (iG 2))))
abbrev sgD (vt:V)(st:Nat)(p e:Addr)(b pl nr:gJ V):L2.St:=[My vt,My (iV st),My (.ref p),My (.ref e),b,pl,nr]
theorem Mu {D:Ends}{vt:V}{st place near:Nat}{p e b:Addr}{H H6:Hp}{st2:gN×List Nat}{iH:List Nat}(d6:DH H H6 p e b st2 iH)(hpk2:place∈st2.1.map (·.1))(l1:st2.1.length<=10000)(l2:st2.2.length<=10000)
  (h:∀ H',DH H H' p e b (je place st2 near) iH->kA H6 H'->D.nx (sgD vt st p e (My (.ref b)) (My (iV place)) (My (iV near))) H'):dbI K D (sgD vt st p e (My (.ref b)) (My (iV place)) (My (iV near))) H6:=by
 refine⟨_,rfl,_,rfl,p,_,rfl,yP.k (k:=Sum.inl (near:Int)) d6.hp,_,rfl,?_⟩;rw[xJ];cases hk:sj st2.1 near with
 | true =>
  rw[ai rfl];refine KQ ?_;have:je place st2 near=st2:=by unfold je;rw[ai hk]
  rw[this]at h;exact h H6 d6 kA.refl
 | false =>
  rw[au ax];refine KR ?_;have hv:je place st2 near=(st2.1++[(near,look st2.1 place+1)],st2.2++[near]):=by unfold je;rw[au (by rw[hk];exact ax)]
  rw[hv]at h;have hlook:oQ (kvD (lM st2.1)) (Sum.inl (place:Int))=My (.int (look st2.1 place)):=by rw[xJ,ai ((oY _ _).mpr hpk2)]
  have g1:yP H6 p (iV place) (My (.int (look st2.1 place))):=by rw[<-hlook];exact yP.k (k:=Sum.inl (place:Int)) d6.hp
  have hll:(kvD (lM st2.1)).length<sizeLine:=by
   have:(kvD (lM st2.1)).length=st2.1.length:=by simp[kvD,lM]
   rw[sizeLine_eq];lia
  refine⟨_,rfl,_,rfl,p,_,rfl,g1,_,_,rfl,rfl,_,rfl,_,rfl,p,_,rfl,Hu.k (k:=Sum.inl (near:Int)) d6.hp hll,?_⟩;have hput:putK (kvD (lM st2.1)) (Sum.inl (near:Int)) (V.int ((look st2.1 place:Int)+1))=kvD (lM (st2.1++[(near,look st2.1 place+1)])):=by rw[<-II _ hk];rfl
  rw[hput];have hbb:upd H6 p (.dK (kvD (lM (st2.1++[(near,look st2.1 place+1)])))) b=My (.lst (st2.2.map iV)):=by rw[hU (aZ d6.pb)];exact d6.hb
  refine⟨_,rfl,.inl ⟨rfl,_,SqL.of hbb⟩,_,rfl,b,_,_,rfl,rfl,hbb,by rw[ah,sizeLine_eq];lia,h _ ⟨jw (jw d6.same d6.np) d6.nb,d6.np,d6.ne',d6.nb,d6.pe,d6.pb,d6.eb,?_,?_,?_⟩ ((kA.upd (by rw[d6.hp];trivial)).trans (kA.upd (by rw[hbb];trivial)))⟩
  ·rw[hU d6.pb];exact gZ
  ·rw[hU d6.eb,hU (aZ d6.pe)];exact d6.he
  ·rw[gZ];simp[iV]
theorem RH {K:gK}{H:Hp}:Sat K H [] []:=⟨rfl,λ _ _ h=>by cases h⟩
theorem EB {K:gK}{H:Hp}{x:gJ V}{σ:L2.St}{δ:DE}(h:Sat K H σ δ):Sat K H (x::σ) (U5::δ):=⟨cN (·+1) h.len,λ j d hj=>by
 cases j with
 | zero=>cases hj
 | succ j=>exact h.at_ j d hj⟩
theorem PV {K:gK}{H:Hp}{v:V}{d:Dt}{σ:L2.St}{δ:DE}(i:Is K H v d)(h:Sat K H σ δ):Sat K H (My v::σ) (My d::δ):=⟨cN (·+1) h.len,λ j d hj=>by
 cases j with
 | zero=>cases hj;exact⟨_,rfl,i⟩
 | succ j=>exact h.at_ j d hj⟩
theorem J6 {K:gK}{H':Hp}{vt:V}{st place:Nat}{p e:Addr}{b nr:gJ V}{x:Dt}(i:Is K H' vt x):Sat K H' (sgD vt st p e b (My (iV place)) nr) [My x,U5,U5,U5,U5,My (gR place),U5] :=
 PV i (EB (EB (EB (EB (PV (.int _) (EB RH))))))
theorem J9 {D:Ends}{vt:V}{st place:Nat}{p e b:Addr}{nr:gJ V}{H H':Hp}{l:gN}{st1:gN×List Nat}{iH:List Nat}{x:Dt}(ex:dTs x=My l)(hlen:l.length<=30)(i1:Is K H' vt x)(d1:DH H H' p e b st1 iH)(bi1:BI (univ l st) st1)(hpk:place∈st1.1.map (·.1))(hl1:st1.2.length<=st1.1.length)
  (h:∀ nr H6,DH H H6 p e b (visit l st1 place) iH->kA H' H6->D.nx (sgD vt st p e (My (.ref b)) (My (iV place)) nr) H6):dbM K D (sgD vt st p e (My (.ref b)) (My (iV place)) nr) H':=by
 have tk:=IC ex hlen place;refine⟨_,(nb l place).map gR,J6 i1,?_,qJ.of (λ d hd=>by obtain⟨t,_,rfl⟩:=aE.mp hd;exact .int _),λ J H5 s5 ok=>?_⟩
 ·generalize (nb l place).map gR=zs at tk;simp only[gR]at tk;simp[tk,xA,gR]
 ·have d5:=d1.ext s5
  refine IH ok (λ j σ' H'=>∃ (nr:gJ V),σ'=sgD vt st p e (My (.ref b)) (My (iV place)) nr/\DH H H' p e b (((nb l place).take j).foldl (je place) st1) iH/\kA H5 H')
   ⟨nr,rfl,d5,kA.refl⟩ (λ j σ' H' _ z=>by obtain⟨_,_,_,t⟩:=z;exact t) ?_ ?_
  ·rintro j dd xv σ' H6 hj ixv ⟨nr,rfl,d6,t6⟩
   rw[aH]at hj;cases hnr:(nb l place)[j]? with
   | none=>rw[hnr]at hj;cases hj
   | some near =>
    rw[hnr]at hj;cases hj;have hx:=ixv.int_inv;subst hx;have hst3:((nb l place).take (j+1)).foldl (je place) st1=je place (((nb l place).take j).foldl (je place) st1) near:=by rw[fq,hnr,List.foldl_append];rfl
    have hpk2:=nG (f:=je place) (λ st p k hk=>qS hk) ((nb l place).take j) st1 place hpk;have bi2:BI (univ l st) (((nb l place).take j).foldl (je place) st1):=t_ _ (λ x hx _ hs=>zR hs (Ft (dP hx))) bi1;have hl2:=qT (f:=je place) (λ _ _=>xK) ((nb l place).take j) st1;have hle:=bi2.le;rw[ua]at hle;generalize ((nb l place).take j).foldl (je place) st1=st2 at d6 hst3 hpk2 hl2 hle;refine Mu d6 hpk2 (by lia) (by lia) λ H7 d7 t7=>⟨_,rfl,?_,t6.trans t7⟩;rw[hst3];exact d7
  ·rintro σ' H6 ⟨nr,rfl,d6,t6⟩;rw[ah,eD]at d6;exact h _ _ d6 (s5.text.trans t6)
theorem EC {D:Ends}{vt:V}{st:Nat}{p e:Addr}{b0 pl0 nr0:gJ V}{H H2:Hp}{l fd:gN}{iH:List Nat}{x:Dt}(ex:dTs x=My l)(hlen:l.length<=30)(i1:Is K H vt x)(s2:g6 H H2)(hp:H p=U5)(he:H e=U5)(hpe:p≠e)
  (gp:H2 p=My (.dK (kvD (lM fd)))) (ge:H2 e=My (.lst (iH.map iV))) (bi:BI (univ l st) (fd,iH))
  (h:∀ b pl nr H',g6 H H'->H b=U5->p≠b->H' p=My (.dK (kvD (lM (jS l fd iH).1)))->H' b=My (.lst ((jS l fd iH).2.map iV))->D.nx (sgD vt st p b (My (.ref b)) pl nr) H'):dbW K D (sgD vt st p e b0 pl0 nr0) H2:=by
 refine⟨aT _,λ b hb=>?_⟩;have hbp:p≠b:=λ z=>by subst z;rw[hb]at gp;cases gp
 have hbe:e≠b:=λ z=>by subst z;rw[hb]at ge;cases ge
 have hb0:H b=U5:=s2.free hb;have d0:DH H (upd H2 b (.lst [])) p e b (fd,[]) iH:=⟨jw s2 hb0,hp,he,hb0,hpe,hbp,hbe,by rw[hU hbp];exact gp,by rw[hU hbe];exact ge,gZ⟩;refine⟨_,rfl,e,rfl,⟨_,SqL.of d0.he⟩,Hj (K:=K) (a:=e) (xs:=iH.map iV) (λ i σ' H'=>∃ (pl nr:gJ V),σ'=sgD vt st p e (My (.ref b)) pl nr/\DH H H' p e b ((iH.take i).foldl (visit l) (fd,[])) iH/\kA H H')
  ⟨pl0,nr0,rfl,d0,d0.same.text⟩ (λ i σ' H' _ z=>by obtain⟨_,_,_,d,_⟩:=z;exact SqL.of d.he) ?_ ?_⟩
 ·clear d0 gp ge s2
  rintro i xv σ' H' hi ⟨pl,nr,rfl,d1,t1⟩;rw[aH]at hi;cases hpl:iH[i]? with
  | none=>rw[hpl]at hi;cases hi
  | some place =>
   rw[hpl]at hi;cases hi;have hst':(iH.take (i+1)).foldl (visit l) (fd,[])=visit l ((iH.take i).foldl (visit l) (fd,[])) place:=by rw[fq,hpl,List.foldl_append];rfl
   have bi1:BI (univ l st) ((iH.take i).foldl (visit l) (fd,[])):=t_ _ (λ _ _ _ hs=>CA hs) ⟨bi.nd,bi.sub,by simp⟩;have hpk:place∈((iH.take i).foldl (visit l) (fd,[])).1.map (·.1):=nG (f:=visit l) (λ st p k hk=>sM st k hk) _ (fd,[]) place (bi.by' place (bt hpl));have hl1:=qT (f:=visit l) (λ st p=>zS st) (iH.take i) (fd,[]);generalize (iH.take i).foldl (visit l) (fd,[])=st1 at d1 hst' bi1 hpk hl1;refine J9 ex hlen (i1.ext d1.same) d1 bi1 hpk (by simp at hl1;lia) λ nr H6 d6 t6=>⟨_,_,rfl,?_,t1.trans t6⟩;rw[hst'];exact d6
 ·rintro σ' H' ⟨pl,nr,rfl,d1,t1⟩;rw[ah,eD]at d1;exact⟨_,rfl,h b pl nr H' d1.same hb0 hbp d1.hp d1.hb⟩
def dI1 (vt:V)(st:Nat)(l:gN)(H:Hp):Nat->L2.St->Hp->Prop:=λ m σ H2=>∃ (fd:gN) (iH:List Nat) (p e:Addr) (b pl nr:gJ V),σ=sgD vt st p e b pl nr/\g6 H H2/\H p=U5/\H e=U5/\p≠e/\H2 p=My (.dK (kvD (lM fd)))/\H2 e=My (.lst (iH.map iV)) /\
  BI (univ l st) (fd,iH)/\mr l m fd iH=bfs l st/\(iH≠[]->2*l.length+3<=m+fd.length)
def dI2 (vt:V)(st:Nat)(l fd:gN)(iH:List Nat)(H:Hp):L2.St->Hp->Prop:=λ σ' H'=>∃ (p b:Addr) (pl nr:gJ V),σ'=sgD vt st p b (My (.ref b)) pl nr/\g6 H H'/\H p=U5/\H b=U5/\p≠b/\H' p=My (.dK (kvD (lM (jS l fd iH).1)))/\H' b=My (.lst ((jS l fd iH).2.map iV))
theorem G1 {D:Ends}{vt:V}{st:Nat}{H:Hp}{l:gN}{x:Dt}(ex:dTs x=My l)(hlen:l.length<=30)(i1:Is K H vt x)(q:∀ v H',g6 H H'->Is K H' v (.dct (lM (bfs l st)))->D.rt v H')(m:Nat)(σ:L2.St)(H2:Hp)(z:dI1 vt st l H m σ H2) :
  dtW K σ H2 λ b H1=>if b=U6 then ∃ N:L2.St->Hp->Prop,(∀ σ' H',N σ' H'->∃ m',m'<m/\dI1 vt st l H m' σ' H')/\dbW K {D with nx:=N,ct:=N,bk:=BO (iG 2) D} σ H1 else BO (iG 2) D σ H1:=by
 obtain⟨fd,iH,p,e,b0,pl0,nr0,rfl,s2,hp,he,hpe,gp,ge,bi,hm,hf⟩:=z;refine⟨_,rfl,!(iH.map iV).isEmpty,.inl ⟨_,SqL.of ge,rfl⟩,?_⟩;cases hedge:iH with
 | nil =>
  subst hedge;refine KQ ?_;refine⟨_,rfl,q _ H2 s2 (.dct (.inl ?_))⟩;rw[<-hm];have:mr l m fd []=fd:=by cases m<;>rfl
  rw[this];exact gp
 | cons e0 es =>
  refine KR ?_;have hne:iH≠[]:=by rw[hedge];simp
  have hf:=hf hne;have hle:=bi.le;rw[ua]at hle;have hle:fd.length<=2*l.length+1:=hle;obtain⟨m',rfl⟩:∃ m',m=m'+1:=⟨m-1,by lia⟩;have hstep:mr l (m'+1) fd iH=mr l m' (jS l fd iH).1 (jS l fd iH).2:=by rw[hedge];rfl
  rw[hstep]at hm;refine⟨dI2 vt st l fd iH H,?_,?_⟩
  ·rintro σ' H' ⟨p,b,pl,nr,rfl,s3,hp,hb,hpb,gp,gb⟩;have lb:=xM (iH:=iH) (l:=l) (fd:=fd) ⟨bi.nd,bi.sub,by simp⟩;refine⟨m',by lia,_,_,p,b,My (.ref b),pl,nr,rfl,s3,hp,hb,hpb,gp,gb,⟨lb.nd,lb.sub,lb.by'⟩,hm,λ hb'=>?_⟩;have:=u4 (l:=l) (fd:=fd) (iH:=iH);have:0<(jS l fd iH).2.length:=dU.mpr hb';lia
  ·exact EC ex hlen i1 s2 hp he hpe gp ge bi λ b pl nr H' s3 hb hpb gp gb=>⟨p,b,pl,nr,rfl,s3,hp,hb,hpb,gp,gb⟩
theorem J_ {D:Ends}{vt:V}{st:Nat}{H:Hp}{l:gN}{x:Dt}(ex:dTs x=My l)(hlen:l.length<=30)(i1:Is K H vt x)(q:∀ v H',g6 H H'->Is K H' v (.dct (lM (bfs l st)))->D.rt v H'):dA K D [My vt,My (iV st),U5,U5,U5,U5,U5] H:=by
 intro p hp;refine⟨_,rfl,gZ,[(Sum.inl (st:Int),.int 0)],rfl,by simp,?_⟩;refine⟨_,rfl,by show 1<=sizeLine;decide,λ e he=>?_⟩;have hp0:upd (upd H p (.dK [])) p (.dK (uO [] [(Sum.inl (st:Int),V.int 0)]))=upd H p (.dK (kvD (lM [(st,0)]))):=by rw[Ko];rfl
 rw[hp0]at he ⊢;have hpe:p≠e:=λ z=>by subst z;rw[gZ]at he;cases he
 have he0:H e=U5:=by rw[hU (aZ hpe)]at he;exact he
 refine⟨dI1 vt st l H,⟨2*l.length+2,[(st,0)],[st],p,e,U5,U5,U5,rfl,jw (jw (g6.refl H) hp) he0,hp,he0,hpe,by rw[hU hpe];exact gZ,gZ,⟨by simp,λ q hq=>by rw[bp.mp hq];exact aB,λ j hj=>by simpa using hj⟩,rfl,λ _=>by simp⟩,?_⟩;exact λ m σ H2 z=>G1 ex hlen i1 q m σ H2 z
set_option tactic.hygienic true in
theorem BD (T : Txt K mg) : OkT P w base T.rg 2 (spD K 2 oq) := by
  refine T.rg.F.ok ml (λ vs H Q E h => ?_) (λ cdv A outer s H vs Q E hr h => ?_)
  · obtain⟨ds, d, hl, is, _⟩ := h
    rw[is.length, hl]; rfl
  · obtain⟨ds, d, hl, is, e, q⟩ := h
    match ds, e with
    | [x, y], e =>
      obtain⟨l, e1, e⟩ := gU (show(dTs x).bind _ = _ from e);obtain⟨st, e2, e⟩ := gU e;split at e
      · rename_i hlen
        cases e;have e2 := ju e2;subst e2;obtain⟨vt, v2, rfl, i1, i2⟩ := is.two;have hv2 := i2.int_inv;subst hv2;have hu := QQ hr;refine⟨dA K, g9 (iY (i := 2) ml.nd rfl (Or.inl rfl) (KP (Hy (pv 1) ic KO) rfl rfl (by simp) (by decide)))
          (g9 (iY (i := 3) ml.nd rfl (Or.inl rfl) (kG (gW (pv 1) hZ)))
          (g9 (wU bj (BU (pv 3) (λ _ => rfl))
            (g9 (iY (i := 4) ml.nd rfl (Or.inl rfl) (kG hZ))
            (g9 (qA bj rfl (Ak (pv 3)) (pgo 5)
              (ji (qA bj rfl (Lv (dC T.nI (qh T) hr (gQ (dv 0) (gQ (dv 5) gX)))) (pgo 6)
                (ji (wR (NP (F6 hu (pv 6) (pv 2)) (by with_unfolding_all rfl)) (g9 (KN hu (pv 2) (pv 6) (jM qB (KL hu (pv 2) (pv 5) (λ _ _ => rfl)) ic) rfl)
                  (ji (sZ (xc cT dR dS rz (pv 4) (gW (pv 6) hZ))))) o_)))))
            (ji (iY (i := 3) ml.nd rfl (Or.inl rfl) (pv 4))))))
          (ji (lW (pv 2))))), ?_⟩
        exact J_ e1 (by lia) i1 q
      · cases e
end
section
variable {P:Program}{w:World}{K:gK}{mg:gG}{base:Heap}
theorem uB (T:Txt K mg):OkT P w base T.mE 1 (spD K 2 kY):=by
 refine T.mE.F.ok mj (λ vs H Q E h=>?_) (λ cdv A outer s H vs Q E hr h=>?_)
 ·obtain⟨ds,d,hl,is,_⟩:=h;rw[is.length,hl];rfl
 ·obtain⟨ds,d,hl,is,e,q⟩:=h
  obtain⟨⟨a,b⟩,e1,e2⟩:=iA e;obtain rfl:=tP e1;clear e e1
  ·cases e2
   refine⟨_,g9 (AO (i:=0) (j:=1) rfl mj.nd (gQ (iL Fj T.FR boot_abs (gQ (dv 0) gX)) (gQ (iL Fj T.FR boot_abs (gQ (dv 1) gX)) gX)))
    (g9 (wU bj (lj (dv 1)) (ik (AO (i:=0) (j:=1) rfl mj.nd (gQ (dv 1) (gQ (jt Na (dv 0) (dv 1)) gX))))) (ik (iQ (dv 0)))),?_⟩
   refine⟨_,.nx [My (gR a.natAbs),My (gR b.natAbs)],is.start,?_,λ H1 s1 σ1 S1=>?_⟩
   ·simp[Fu,gR]
   ·refine BS (λ σ H2=>g6 H H2/\∃ x y:Nat,Sat K H2 σ [My (gR x),My (gR y)]/\Nat.gcd x y=Int.gcd a b) (intAt 1) ⟨s1,_,_,S1,rfl⟩ ?_ (λ σ H=>CB σ H)
    rintro σ H2 ⟨s2,x,y,S,hg⟩;refine⟨_,decide (y≠0),S,?_,λ H3 s3=>?_⟩
    ·simp[DU,gR];rw[bJ];simp
    ·show(if decide (y≠0)=U6 then _ else _)
     by_cases hy:y=0
     ·subst hy;rw[au (by simp)];refine⟨_,.rt (gR x),S.ext s3,rfl,λ H4 s4 v iv=>q v H4 ((s2.trans s3).trans s4) ?_⟩;rw[Nat.gcd_zero_right]at hg;rw[<-hg];exact iv
     ·rw[ai (by simpa using hy)]
      refine⟨_,.nx [My (gR y),My (gR (x % y))],S.ext s3,?_,λ H4 s4 σ4 S4=>⟨⟨(s2.trans s3).trans s4,y,x % y,S4,?_⟩,?_⟩⟩
      ·have:0<y:=by lia
       simp[dIC,gR,this]
      ·rw[<-hg,gn x y,Nat.gcd_rec y x,gn]
      ·rw[ub S4 (i:=1) rfl,ub S (i:=1) rfl];exact fy _ (by lia)
theorem yH (T:Txt K mg):OkT P w base T.rT 1 (spD K 2 uZ):=by
 refine T.rT.F.ok pY (λ vs H Q E h=>?_) (λ cdv A outer s H vs Q E hr h=>?_)
 ·obtain⟨ds,d,hl,is,_⟩:=h;rw[is.length,hl];rfl
 ·obtain⟨ds,d,hl,is,e,q⟩:=h
  obtain⟨a,b,rfl,hc,rfl⟩:=Cp e
  ··clear e
    obtain⟨h1,h2⟩:=sJ (a:=a) hc.1;obtain⟨h3,h4⟩:=D0 (a:=a) hc.1;have h5:0<(Int.gcd a b:Int)/\bd (Int.gcd a b:Int):=⟨h3,Nc hc.2 (by lia) h4⟩;refine⟨_,g9 (AO (i:=2) (j:=3) rfl pY.nd (gQ (iL Fj T.FR boot_abs (gQ (dv 0) gX)) (gQ (iL Fj T.FR boot_abs (gQ (dv 1) gX)) gX)))
     (g9 (wU bj (jZ (DW (ip hr)) (dv 3) hX) (ik (AO (i:=2) (j:=3) rfl pY.nd (gQ (dv 3) (gQ (jt Na (dv 2) (dv 3)) gX)))))
     (iq (om (jZ Ie (dv 1) hX) (ik (jn (i:=2) pY.nd (jt M_ hX (dv 2)))) jT) (ik (iQ (jg (gQ (jt Fc (dv 0) (dv 2)) (gQ (jt Fc (dv 1) (dv 2)) gX))))))),?_⟩
    refine⟨_,.nx [My (.int a),My (.int b),My (gR a.natAbs),My (gR b.natAbs)],is.start,?_,λ H1 s1 σ1 S1=>?_⟩
    ·simp[Fu,gR]
    ·refine BS (λ σ H2=>g6 H H2/\∃ x y:Nat,Sat K H2 σ [My (.int a),My (.int b),My (gR x),My (gR y)]/\Nat.gcd x y=Int.gcd a b) (intAt 3) ⟨s1,_,_,S1,rfl⟩ ?_ (λ σ H=>CB σ H)
     rintro σ H2 ⟨s2,x,y,S,hg⟩;refine⟨_,decide (y≠0),S,?_,λ H3 s3=>?_⟩
     ·simp[gR];rw[bJ];simp
     ·show(if decide (y≠0)=U6 then _ else _)
      by_cases hy:y=0
      ·subst hy
       rw[au (by simp)];rw[Nat.gcd_zero_right]at hg;refine⟨_,.rt (hV (U_ a b)),S.ext s3,?_,λ H4 s4 v iv=>q v H4 ((s2.trans s3).trans s4) iv⟩;have hnb:¬ b<0:=by lia
       unfold hV;rw[h1,h2];rw[hg];simp[gR,hnb,dIC,h5,show b≠0 by lia]
      ·rw[ai (by simpa using hy)]
       refine⟨_,.nx [My (.int a),My (.int b),My (gR y),My (gR (x % y))],S.ext s3,?_,λ H4 s4 σ4 S4=>⟨⟨(s2.trans s3).trans s4,y,x % y,S4,?_⟩,?_⟩⟩
       ·have:0<y:=by lia
        simp[dIC,gR,this]
       ·rw[<-hg,gn x y,Nat.gcd_rec y x,gn]
       ·rw[ub S4 (i:=3) rfl,ub S (i:=3) rfl];exact fy _ (by lia)
end
section
variable {P:Program}{w:World}{K:gK}{mg:gG}{base:Heap}
theorem BE (T:Txt K mg):OkT P w base T.rf 1 (spD K 1 ny):=T.rf.okD (g:=pN) Bt (λ _ _ _ _ _ _ hr=>(ik (iQ (iL (Fo rfl) T.FQ boot_all (gQ (oV rfl (csc ["one","following"] [] []) (Nb U6 U6 T.NA (gQ (dv 0) (gQ (LJ (dv 0)) gX))) (λ _ _ _ _=>(mW rfl (iZ (pgo 0) (iZ (pgo 1) lI)))) (qI (jX (by decide) (jX (by decide) oR))) l8 (λ _ _ _ _=>j_) (λ _ _ _ _=>(sf (Q2 (Lw hr)) (dv 0) (dv 1)))) gX))))) zc
theorem ED (T:Txt K mg):OkT P w base T.yD 4 (spD K 1 rP):=T.yD.okD (g:=jP) G0 (λ _ _ _ _ _ _ hr=>(iq (om (yU (qk (kJ (lj (iL oG T.ie boot_isinstance (gQ (dv 0) (gQ (yT T.lK boot_tuple) gX))))) (pB (jZ (DW (ip hr)) (iL zK T.rm cB (gQ (dv 0) gX)) hX)))) (ik (iQ tI)) jT) (iq (uW (dv 0) (mW rfl (iZ (pgo 1) (iZ (pgo 2) lI))) l8) (iq (om (yU (qk (kJ (lj (dC T.nX (qf T) hr (gQ (dv 1) gX)))) (pB (kJ (xx Cg Cg (dG T.v_) (dv 1) (dG T.zm)))))) (ik (iQ tI)) jT) (iq (om (yU (qk (kJ (lj (iL oG T.ie boot_isinstance (gQ (dv 2) (gQ (yT T.lK boot_tuple) gX))))) (pB (kJ (lj (iL (Fo rfl) T.FQ boot_all (gQ (oV rfl (csc ["tie"] ["many"] [1]) (l_ (dv 2)) (λ _ _ _ _=>(pgo 0)) iO i9 (λ _ _ _ _=>j_) (λ _ _ _ _=>(dC T.yC (Ez T) hr (gQ (dv 1) (gQ (dv 0) gX))))) gX))))))) (ik (iQ tI)) jT) (ik (iQ (xy (dC T.rf (BE T) hr (gQ (dv 2) gX)) (zI (sf (vU (ip hr)) (iL OL T.rm cB (gQ (dC T.rg (BD T) hr (gQ (dv 2) (gQ hX gX))) gX)) (dv 1))))))))))) Er
theorem uC (T:Txt K mg):OkT P w base T.oC 1 (spD K 2 kR):=T.oC.okD (g:=qU) Bx (λ _ _ _ _ _ _ hr=>(ik (iQ (oV rfl (csc ["_law_other"] ["_law_web_here","_law_place"] [0,1]) (jK T.jh (gQ (jC (dv 0) hX) gX)) (λ _ _ _ _=>(pgo 0)) iO i9 (λ _ _ _ _=>(AN (jZ (OQ (ip hr)) (jg (gQ (iL (OM rfl) T.JW boot_min (gQ (dv 2) (gQ (dv 0) gX))) (gQ (iL (ON rfl) T.JX boot_max (gQ (dv 2) (gQ (dv 0) gX))) gX))) (jC (dv 1) hX)))) (λ _ _ _ _=>(dv 0)))))) A9
theorem Dc (T:Txt K mg):OkT P w base T.sV 1 (spD K 3 pV):=T.sV.okD (g:=pU) rb (λ _ _ _ _ _ _ hr=>(iq (jn (i:=3) rb.nd (lZ (gQ (dv 2) gX))) (iq (pD bj rfl (jK T.jh (gQ (dv 0) gX)) (pgo 4) i9 (ik (pD bj rfl (l_ (dv 1)) (mW rfl (iZ (pgo 5) (iZ (pgo 6) lI))) l8 (ik (om (yU (qk (jZ (OQ (ip hr)) (dv 5) (dv 3)) (pB (jZ (OQ (ip hr)) (dv 6) (dv 3))))) (ik (jn (i:=3) rb.nd (jt ql (dv 3) (oV rfl (csc ["_law_place"] ["_law_found"] [3]) (l_ (jg (gQ (dv 5) (gQ (dv 6) gX)))) (λ _ _ _ _=>(pgo 0)) iO i9 (λ _ _ _ _=>(AN (jZ (Ll (ip hr)) (dv 0) (dv 1)))) (λ _ _ _ _=>(dv 0)))))) jT))))) (ik (iQ (iL (Co srt qQ pG) T.rn boot_sorted (gQ (dv 3) gX))))))) C2
theorem yI (T:Txt K mg):OkT P w base T.oK 3 (spD K 1 mH):=T.oK.okD (g:=jb) yB (λ _ _ _ _ _ _ hr=>(iq (om (yU (qk (kJ (lj (iL oG T.ie boot_isinstance (gQ (dv 0) (gQ (yT T.lK boot_tuple) gX))))) (qk (jZ (DW (ip hr)) (iL zK T.rm cB (gQ (dv 0) gX)) hX) (qk (kJ (lj (dC T.nC (sA T) hr (gQ (jC (dv 0) hX) gX)))) (pB (kJ (xx Cg Cg hX (jC (dv 0) hX) hX))))))) (ik (iQ tI)) jT) (iq (om (yU (qk (kJ (lj (iL oG T.ie boot_isinstance (gQ (jC (dv 0) hX) (gQ (yT T.lK boot_tuple) gX))))) (pB (kJ (lj (iL (Fo rfl) T.FQ boot_all (gQ (oV rfl (csc ["_law_tie"] ["_law_thing"] [0]) (l_ (jC (dv 0) hX)) (λ _ _ _ _=>(pgo 0)) iO i9 (λ _ _ _ _=>j_) (λ _ _ _ _=>(dC T.oJ (yG T) hr (gQ (jC (dv 1) hX) (gQ (dv 0) gX))))) gX))))))) (ik (iQ tI)) jT) (iq (om (jZ (Rz (ip hr)) (kN xG T.yF boot_list (gQ (jC (dv 0) hX) gX)) (CY rfl hr.units T.rn T.NB (jC (dv 0) hX))) (ik (iQ tI)) jT) (ik (iQ (sf (RA (ip hr)) (dC T.sV (Dc T) hr (gQ (jC (dv 0) hX) (gQ (jC (dv 0) hX) (gQ hX gX)))) (IJ rfl T.yF T.jh (jC (dv 0) hX))))))))) yi
theorem vN (T:Txt K mg):OkT P w base T.p_ 2 (spD K 2 lL):=T.p_.okD (g:=sI) vM (λ _ _ _ _ _ _ hr=>(iq (jn (i:=2) vM.nd (dC T.mE (uB T) hr (gQ (dv 0) (gQ (dv 1) gX)))) (ik (iQ (jg (gQ (jt Fc (dv 0) (dv 2)) (gQ (jt Fc (dv 1) (dv 2)) gX))))))) Cq
theorem Mv (T:Txt K mg):OkT P w base T.Ey 3 (spD K 2 uX):=T.Ey.okD (g:=DZ) Mt (λ _ _ _ _ _ _ hr=>(ik (iQ (dC T.p_ (vN T) hr (gQ (jt qO (jt sg (jC (dv 0) hX) (jC (dv 1) hX)) (jt sg (jC (dv 1) hX) (jC (dv 0) hX))) (gQ (jt sg (jC (dv 0) hX) (jC (dv 1) hX)) gX)))))) Fp
theorem Ka (T:Txt K mg):OkT P w base T.Bz 3 (spD K 2 rG):=T.Bz.okD (g:=AW) JV (λ _ _ _ _ _ _ hr=>(ik (iQ (dC T.p_ (vN T) hr (gQ (jt sg (jC (dv 0) hX) (jC (dv 1) hX)) (gQ (jt sg (jC (dv 0) hX) (jC (dv 1) hX)) gX)))))) Cr
theorem Kb (T:Txt K mg):OkT P w base T.BA 4 (spD K 1 pH):=T.BA.okD (g:=AX) yv (λ _ _ _ _ _ _ hr=>(iq (jn (i:=1) yv.nd (dG T.J0)) (iq (pD bj rfl (l_ (dv 0)) (pgo 2) i9 (ik (jn (i:=1) yv.nd (dC T.Ey (Mv T) hr (gQ (dv 1) (gQ (dv 2) gX)))))) (ik (iQ (dv 1)))))) Iz
theorem qy (T:Txt K mg):OkT P w base T.kU 5 (spD K 2 jk):=T.kU.okD (g:=kQ) mw (λ _ _ _ _ _ _ hr=>(iq (uW (dv 0) (mW rfl (iZ (pgo 2) (iZ (pgo 3) lI))) l8) (iq (jn (i:=4) mw.nd (oV rfl (csc ["share","degree"] [] []) (Nb U6 U7 T.NA (gQ (dv 1) (gQ (dC T.vd (EA T) hr (gQ (dv 0) gX)) gX))) (λ _ _ _ _=>(mW rfl (iZ (pgo 0) (iZ (pgo 1) lI)))) (qI (jX (by decide) (jX (by decide) oR))) l8 (λ _ _ _ _=>j_) (λ _ _ _ _=>(dC T.Bz (Ka T) hr (gQ (dv 0) (gQ (jg (gQ hX (gQ (dv 1) gX))) gX)))))) (ik (iQ (kN we T.lK boot_tuple (gQ (oV rfl (csc ["place"] ["going","ties"] [4,3]) (jK T.jh (gQ (dv 2) gX)) (λ _ _ _ _=>(pgo 0)) iO i9 (λ _ _ _ _=>j_) (λ _ _ _ _=>(dC T.BA (Kb T) hr (gQ (oV rfl (csc ["near"] ["going"] [1]) (l_ (dC T.nI (qh T) hr (gQ (dv 2) (gQ (dv 0) gX)))) (λ _ _ _ _=>(pgo 0)) iO i9 (λ _ _ _ _=>j_) (λ _ _ _ _=>(jC (dv 1) (dv 0)))) gX)))) gX))))))) qv
theorem BF (T:Txt K mg):OkT P w base T.rh 2 (spD K 2 mP):=T.rh.okD (g:=vA) Bw (λ _ _ _ _ _ _ hr=>(ik (iQ (dC T.rT (yH T) hr (gQ (jt qO (jt sg (jC (dv 0) hX) (jC (dv 1) hX)) (jt sg (jC (dv 1) hX) (jC (dv 0) hX))) (gQ (jt sg (jC (dv 0) hX) (jC (dv 1) hX)) gX)))))) A4
theorem zo (T:Txt K mg):OkT P w base T.qa 2 (spD K 2 nh):=T.qa.okD (g:=tY) zl (λ _ _ _ _ _ _ hr=>(ik (iQ (dC T.rT (yH T) hr (gQ (jt sg (jC (dv 0) hX) (jC (dv 1) hX)) (gQ (jt sg (jC (dv 0) hX) (jC (dv 1) hX)) gX)))))) y_
theorem zp (T:Txt K mg):OkT P w base T.qb 3 (spD K 1 nu):=T.qb.okD (g:=pK) oH (λ _ _ _ _ _ _ hr=>(iq (jn (i:=1) oH.nd (jg (gQ hX (gQ hX gX)))) (iq (pD bj rfl (l_ (dv 0)) (pgo 2) i9 (ik (jn (i:=1) oH.nd (dC T.rh (BF T) hr (gQ (dv 1) (gQ (dv 2) gX)))))) (ik (iQ (dv 1)))))) za
theorem sC (T:Txt K mg):OkX P w base T.oA 5 (spX K T.er.C 1 md):=T.oA.okX (g:=nz) Bu (λ _ _ _ _ _ _ hr=>pO (Ek (kJ (lj (dC T.yD (ED T) hr (gQ (dv 0) gX)))) (pO (ya T.er.ug.cl rfl hr.hd qK)) (x_ jT))) ze
theorem mZ (T:Txt K mg):OkX P w base T.lG 3 (spX K T.er.C 2 ku):=T.lG.okX (g:=me) yw (λ _ _ _ _ _ _ hr=>pO (Ek (kJ (lj (dC T.nY (qg T) hr (gQ (jC (dv 0) hX) (gQ (dv 1) gX))))) (pO (ya T.er.o6.cl rfl hr.hd qK)) (x_ jT))) vY
theorem qp (T:Txt K mg):OkX P w base T.mJ 2 (spX K T.er.C 2 kS):=T.mJ.okX (g:=ky) yy (λ _ _ _ _ _ _ hr=>pO (Ek (yU (qk (kJ (lj (dC T.nX (qf T) hr (gQ (dv 0) gX)))) (pB (kJ (xx Cg Cg hX (dv 0) (dv 1)))))) (pO (ya T.er.nR.cl rfl hr.hd qK)) (x_ jT))) v8
theorem Af (T:Txt K mg):OkX P w base T.wL 6 (spX K T.er.C 3 mh):=T.wL.okX (g:=nW) yz (λ _ _ _ _ _ _ hr=>nQ (pP (mG (pCE T.oA (sC T) hr (gQ (dv 0) gX)))) (nQ (pP (mG (pCE T.lG (mZ T) hr (gQ (dv 0) (gQ (dv 1) gX))))) (nQ (pP (mG (pCE T.mJ (qp T) hr (gQ (dv 2) (gQ (dG T.uA) gX))))) (x_ (PSs.nox (iq (jn (i:=3) yz.nd (kN we T.lK boot_tuple (gQ (oV rfl (csc ["other"] ["place"] [1]) (jK T.jh (gQ (jC (dv 0) hX) gX)) (λ _ _ _ _=>(pgo 0)) iO i9 (λ _ _ _ _=>j_) (λ _ _ _ _=>(QT (jZ (vU (ip hr)) (dv 0) (dv 1)) (dG T.RG) (dG T.J0)))) gX))) (iq (pD bj rfl (jK T.jh (gQ (dv 2) gX)) (pgo 4) i9 (ik (jn (i:=3) yz.nd (dC T.kU (qy T) hr (gQ (dv 0) (gQ (dv 3) gX)))))) (ik (iQ (dv 3)))))))))) GX
theorem De (T:Txt K mg):OkX P w base T.BB 6 (spX K T.er.C 4 nB):=T.BB.okX (g:=ox) Bv (λ _ _ _ _ _ _ hr=>nQ (pP (mG (pCE T.oA (sC T) hr (gQ (dv 0) gX)))) (nQ (pP (mG (pCE T.lG (mZ T) hr (gQ (dv 0) (gQ (dv 1) gX))))) (nQ (pP (mG (pCE T.lG (mZ T) hr (gQ (dv 0) (gQ (dv 2) gX))))) (nQ (pP (mG (pCE T.mJ (qp T) hr (gQ (dv 3) (gQ (dG T.uA) gX))))) (x_ (PSs.nox (iq (uW (dv 0) (mW rfl (iZ (pgo 4) (iZ (pgo 5) lI))) l8) (iq (jn (i:=6) Bv.nd (oV rfl (csc ["place"] ["a"] [1]) (jK T.jh (gQ (dv 4) gX)) (λ _ _ _ _=>(pgo 0)) iO i9 (λ _ _ _ _=>j_) (λ _ _ _ _=>(QT (jZ (vU (ip hr)) (dv 0) (dv 1)) hX hX)))) (iq (pD bj rfl (jK T.jh (gQ (dv 3) gX)) (pgo 7) i9 (ik (jn (i:=6) Bv.nd (oV rfl (csc ["place"] ["numbers","ties"] [6,5]) (jK T.jh (gQ (dv 4) gX)) (λ _ _ _ _=>(pgo 0)) iO i9 (λ _ _ _ _=>j_) (λ _ _ _ _=>(iL (Iu rfl) T.Nz boot_sum (gQ (oV rfl (csc ["near"] ["numbers"] [1]) (l_ (dC T.nI (qh T) hr (gQ (dv 2) (gQ (dv 0) gX)))) (λ _ _ _ _=>(pgo 0)) iO i9 (λ _ _ _ _=>j_) (λ _ _ _ _=>(jC (dv 1) (dv 0)))) gX))))))) (ik (iQ (jC (dv 6) (dv 2))))))))))))) JN
theorem BG (T:Txt K mg):OkT P w base T.rl 2 (spD K 4 oy):=T.rl.okD (g:=oz) pZ (λ _ _ _ _ _ _ hr=>(iq (jn (i:=4) pZ.nd (oV rfl (csc ["_law_other"] ["_law_b"] [2]) (jK T.jh (gQ (jC (dv 0) hX) gX)) (λ _ _ _ _=>(pgo 0)) iO i9 (λ _ _ _ _=>j_) (λ _ _ _ _=>(kN Bp T.Ae boot_int (gQ (sf (vU (ip hr)) (dv 0) (dv 1)) gX))))) (iq (pD bj rfl (jK T.jh (gQ (dv 3) gX)) (pgo 5) i9 (ik (jn (i:=4) pZ.nd (oV rfl (csc ["_law_place"] ["_law_here","_law_web_here"] [4,0]) (jK T.jh (gQ (jC (dv 0) hX) gX)) (λ _ _ _ _=>(pgo 0)) iO i9 (λ _ _ _ _=>j_) (λ _ _ _ _=>(iL (Iu rfl) T.Nz boot_sum (gQ (oV rfl (csc ["_law_other"] ["_law_here"] [1]) (l_ (dC T.oC (uC T) hr (gQ (dv 2) (gQ (dv 0) gX)))) (λ _ _ _ _=>(pgo 0)) iO i9 (λ _ _ _ _=>j_) (λ _ _ _ _=>(jC (dv 1) (dv 0)))) gX))))))) (ik (iQ (jC (dv 4) (dv 1))))))) Br
end
section
variable {P:Program}{w:World}{K:gK}{mg:gG}{base:Heap}
def EE (K:gK):Sp:=λ vs H Q _=>∃ (a:Addr) (ns:List Int) (k:Nat),vs=[.ref a,.int k]/\SqL K H a (ns.map V.int)/\ns.length<=63/\∀ c,Q (.int c) H
theorem Mw (T:Txt K mg):OkT P w base T.nZ 1 (EE K):=by
 refine T.nZ.F.ok v9 (λ vs H Q E h=>?_) (λ cdv A outer s H vs Q E hr h=>?_)
 ·obtain⟨a,ns,k,rfl,_⟩:=h;rfl
 ·obtain⟨a,ns,k,rfl,hS,hl,q⟩:=h
  refine⟨_,g9 (wR (wd MR (pv 1) (kD lX (by rfl) T.rm cB (gW (pv 0) hZ)) (wY _)) (ji (lW (mq kK (pv 0) (pv 1) (λ _ _=>rfl)))) o_) (ji (lW ic)),?_⟩;refine⟨_,rfl,_,rfl,a,_,rfl,.inl hS,_,_,rfl,rfl,_,rfl,?_⟩;refine Om (λ hc=>?_) (λ _=>q 0);have hk:k<ns.length:=by have:=of_decide_eq_true hc;rw[ah]at this;lia
  exact⟨_,rfl,_,rfl,a,_,_,.int ns[k],rfl,rfl,hS,by unfold atI ixN;rw[ai (by lia),ai (by rw[ah];lia)];simp[hk],q _⟩
def kz:Sp:=λ vs H Q _=>∃ (p:Addr) (n far:Int),vs=[.ref p,.int far]/\H p=My (.lst [.int n])/\0<far/\far<1073741824/\Q (.int (n % far)) (upd H p (.lst [.int (n / far)]))
theorem jL (T:Txt K mg):OkT P w base T.iJ 1 kz:=by
 refine T.iJ.F.ok uz (λ vs H Q E h=>?_) (λ cdv A outer s H vs Q E hr h=>?_)
 ·obtain⟨p,n,far,rfl,_⟩:=h;rfl
 ·obtain⟨p,n,far,rfl,hp,h0,h1,q⟩:=h
  refine⟨_,g9 (iY (i:=2) uz.nd rfl (Or.inl rfl) (jM wW (mq kK (pv 0) ic (λ _ _=>rfl)) (pv 1)))
   (g9 (Hd (jM Kx (mq kK (pv 0) ic (λ _ _=>rfl)) (pv 1)) (NX (pv 0) ic set_list))
   (ji (lW (pv 2)))),?_⟩
  refine⟨_,rfl,p,_,_,.int n,rfl,rfl,SqL.of hp,rfl,_,rfl,_,_,rfl,rfl,h0,?_⟩;refine⟨_,rfl,p,_,_,.int n,rfl,rfl,SqL.of hp,rfl,_,rfl,_,_,rfl,rfl,⟨h0,h1⟩,_,rfl,p,_,_,0,rfl,rfl,hp,rfl,_,rfl,?_⟩;exact q
def Kc:Sp:=λ vs H Q _=>∃ c:Int,vs=[.int c]/\∀ (p:Addr) (n:Int),H p=U5->Q (.ref p) (upd H p (.lst [.int n]))
theorem PY (T:Txt K mg):OkT P w base T.sU 1 Kc:=by
 refine T.sU.F.ok mV (λ vs H Q E h=>?_) (λ cdv A outer s H vs Q E hr h=>?_)
 ·obtain⟨c,rfl,_⟩:=h;rfl
 ·obtain⟨c,rfl,q⟩:=h
  refine⟨_,g9 (wR (wd QH (pv 0) (jM wX ic ic) (wY _)) (ji (lW (kG (gW (jM Al (pv 0) (jM wX ic ic)) hZ)))) o_)
   (g9 (iY (i:=1) mV.nd rfl (Or.inl rfl) ic)
   (g9 (qA bj rfl (nD rfl T.jh (gW ic hZ)) (pgo 2)
    (g9 (iY (i:=3) mV.nd rfl (Or.inl rfl) (jM wW (jM uJ (jM qB (jM qB (jM wW (pv 0) ic) (jM uJ ic (pv 2))) ic) ic) ic))
    (g9 (iY (i:=3) mV.nd rfl (Or.inl rfl) (jM wW (jM qB (jM qB (jM uJ (pv 3) (pv 3)) (jM uJ ic (pv 2))) ic) ic))
    (ji (iY (i:=1) mV.nd rfl (Or.inl rfl) (jM qB (jM uJ (pv 1) ic) (pv 3)))))))
   (ji (lW (kG (gW (pv 1) hZ)))))),?_⟩
  refine⟨_,rfl,_,_,rfl,rfl,⟨by decide,by decide,by decide⟩,_,_,rfl,rfl,_,rfl,?_⟩;refine Om (λ _=>?_) (λ _=>?_)
  ·exact⟨_,rfl,_,_,rfl,rfl,⟨by decide,by decide,by decide⟩,_,_,rfl,rfl,by show 1<=sizeLine;decide,λ l hl=>q l _ hl⟩
  ·refine⟨64,rfl,by decide,by decide,oN (n:=64) (λ i σ H'=>H'=H/\∃ (n:Int) (a b:gJ V),σ=[My (.int c),My (.int n),a,b]) ⟨rfl,0,U5,U5,rfl⟩ ?_ ?_⟩
   ·rintro i σ H' hi ⟨rfl,n,a,b,rfl⟩
    refine⟨_,rfl,_,_,rfl,rfl,(by show(0:Int)<2147483629;decide),_,rfl,_,_,rfl,rfl,.inl ⟨by decide,by decide⟩,_,_,rfl,rfl,_,_,rfl,rfl,_,_,rfl,rfl,.inr ⟨by decide,by decide⟩,_,_,rfl,rfl,(by show(0:Int)<2147483647;decide),?_⟩;generalize hmx:((c % 2147483629+7919*(0+(i:Int))+1)*48271) % 2147483647=mx;have h0:0<=mx:=by rw[<-hmx];exact bW _ (by decide)
    have h1:mx<2147483647:=by rw[<-hmx];exact cC _ (by decide)
    refine⟨_,rfl,_,rfl,_,_,rfl,rfl,.inl ⟨by lia,by lia⟩,_,rfl,_,_,rfl,rfl,.inl ⟨by decide,by decide⟩,_,_,rfl,rfl,_,_,rfl,rfl,_,_,rfl,rfl,(by show(0:Int)<2147483587;decide),?_⟩;refine⟨_,rfl,_,_,rfl,rfl,.inr ⟨by decide,by decide⟩,_,rfl,_,_,rfl,rfl,?_⟩;exact⟨rfl,_,_,_,rfl⟩
   ·rintro σ H' ⟨rfl,n,a,b,rfl⟩;exact⟨_,rfl,by show 1<=sizeLine;decide,λ l hl=>q l _ hl⟩
end
def But (p:Addr)(H H':Hp):Prop:=∀ b o,H b=My o->b≠p->H' b=My o
theorem But.refl (p:Addr)(H:Hp):But p H H:=λ _ _ h _=>h
theorem But.sW {p:Addr}{H H':Hp}{o:HO}(h:But p H H'):But p H (upd H' p o):=λ b u e n=>by rw[hU n];exact h b u e n
theorem But.new {p q:Addr}{H H':Hp}{o:HO}(h:But p H H')(hq:H q=U5):But p H (upd H' q o):=λ b u e n=>by rw[hU (iP e hq)];exact h b u e n
theorem But.none {p q:Addr}{H H':Hp}(h:But p H H')(hn:H' q=U5)(hp:q≠p):H q=U5:=by
 cases e:H q with
 | none=>rfl
 | some o=>rw[h q o e hp]at hn;cases hn
theorem yJ {α:Type}:∀ (L:List α) {j:Nat} (h:j<L.length),(L[j]::L.eraseIdx j).Perm L
 | a::r,0,h=>.refl _
 | a::r,j+1,h=>by have ih:=yJ r (j:=j) (by simpa using h);show(r[j]'(by simpa using h)::a::r.eraseIdx j).Perm (a::r);exact(List.Perm.swap _ _ _).trans (ih.cons a)
theorem Ag {α β:Type}(f:α->β):∀ (L:List α) (j:Nat),(L.map f).eraseIdx j=(L.eraseIdx j).map f
 | [],_=>rfl
 | a::r,0=>rfl
 | a::r,j+1=>by show f a::(r.map f).eraseIdx j=f a::(r.eraseIdx j).map f;rw[Ag f r j]
theorem NC {xs:List Nat}{j:Nat}(h:j<xs.length):atI (xs.map iV) (j:Int)=My (iV (xs.getD j 0)):=by refine lJ ?_;rw[aH,aq,aA h];rfl
def TN (H:Hp)(vs:List V)(l:gN):Prop:=Gf H vs (l.map λ t=>[(t.1:Int),(t.2:Int)])
theorem TN.text {H H':Hp}{vs:List V}{l:gN}(h:TN H vs l)(e:kA H H'):TN H' vs l:=Paired.imp' (λ _ _ ⟨b,e1,e2⟩=>⟨b,e1,e.qq _ _ e2⟩) h
theorem TN.len {H:Hp}{vs:List V}{l:gN}(h:TN H vs l):vs.length=l.length:=by have:=fE h;simpa using this
theorem TN.snoc {H:Hp}{vs:List V}{l:gN}{b:Addr}{t:Nat×Nat}(h:TN H vs l)(hb:H b=My (.tup [.int t.1,.int t.2])):TN H (vs++[.ref b]) (l++[t]):=by unfold TN at *;rw[bu];exact fY h ⟨b,rfl,hb⟩
theorem TN.get {H:Hp}{vs:List V}{l:gN}(h:TN H vs l){i:Nat}{v:V}(e:vs[i]?=My v):∃ t b,l[i]?=My t/\v=.ref b/\H b=My (.tup [.int t.1,.int t.2]):=by
 obtain⟨k,hk,b,e1,e2⟩:=oU h i v e;rw[aH]at hk;cases ht:l[i]? with
 | none=>rw[ht]at hk;cases hk
 | some t=>rw[ht]at hk;cases hk;exact⟨t,b,rfl,e1,e2⟩
theorem Df {K:gK}{H:Hp}{ws:List V}{l:gN}(h:TN H ws l):Iss K H ws (l.map hJ):=by
 induction l generalizing ws with
 | nil=>cases h;exact .nil
 | cons t r ih =>
  cases h with
  | cons h1 h2 =>obtain⟨b,rfl,hb⟩:=h1;exact .cons (.tup (SqT.of hb) (.cons (.int _) (.cons (.int _) .nil))) (ih h2)
theorem G2 {ks:List (List Int)}{l:gN}(h:∀ k∈ks,k∈l.map λ t=>[(t.1:Int),(t.2:Int)]):(ks.map λ k=>(k.getD 0 0,k.getD 1 0)).map (λ(k:Int×Int)=>[k.1,k.2])=ks:=by
 rw[aU];conv=>rhs;rw[<-cY ks]
 refine bR λ k hk=>?_;obtain⟨t,_,rfl⟩:=aE.mp (h k hk);rfl
section
variable {P:Program}{w:World}{K:gK}{mg:gG}{base:Heap}
def ND (K:gK):Sp:=λ vs H Q _=>∃ (p:Addr) (n:Int) (mo thick:Nat),vs=[.ref p,.int mo,.int thick]/\(2<=mo/\mo<=8)/\thick<=1/\H p=My (.lst [.int n]) /\
 ∀ v H' (n':Int) (w:Web),Good w->(thick=0->w.2.length+1=w.1)->Is K H' v (h_ w)->H' p=My (.lst [.int n'])->But p H H'->Q v H'
def Mx (K:gK):List V->Hp->VK->Prop:=λ xs H Q=>∃ p ys,xs=[.ref p]/\(SqL K H p ys\/SqT K H p ys)/\Q (.int ys.length) H
def PZ:List V->Hp->VK->Prop:=λ xs H Q=>∃ i j,xs=[.int i,.int j]/\Q (.int (if j<i then j else i)) H
def P2:List V->Hp->VK->Prop:=λ xs H Q=>∃ i j,xs=[.int i,.int j]/\Q (.int (if j>i then j else i)) H
def P4:List V->Hp->VK->Prop:=λ xs H Q=>∃ (r:Addr) (n:Nat),xs=[V.ref r]/\H r=My (HO.rng 0 (n:Int))/\n<=1000/\∀ (p:Addr),H p=U5->Q (V.ref p) (upd H p (HO.lst (List.map (λ(i:Nat)=>V.int (i:Int)) (U8 n))))
def RI:List V->Hp->VK->Prop:=λ xs H Q=>∃ (j:Int),xs=[V.int j]/\∀ (p:Addr),H p=U5->Q (V.ref p) (upd H p (HO.rng 0 j))
def P5 (K:gK):List V->Hp->VK->Prop:=λ xs H Q=>∃ p ys,xs=[V.ref p]/\((SqL K H p ys/\∀ (l:Addr),H l=U5->Q (V.ref l) (upd H l (HO.tup ys)))\/SqT K H p ys/\Q (V.ref p) H)
def Mz (w:World):List V->Hp->VK->Prop:=λ xs H Q=>∃ (S:Addr) (kk:List (Int×Int)),xs=[V.ref S]/\K4 w H S (List.map (λ(k:Int×Int)=>[k.1,k.2]) kk)/\kk.length<64/\∀ (p:Addr) (ws:List V) (ss:List (Int×Int)),H p=U5->Gf H ws (List.map (λ(k:Int×Int)=>[k.1,k.2]) ss)->List.Pairwise (λ a b=>Tb.pLt a b=U6) ss->ss.Perm kk->Q (V.ref p) (upd H p (HO.lst ws))
def Ug (K:gK)(w:World):List V->Hp->VK->Prop:=λ xs H Q=>∃ (l:Addr) (vs:List V) (kk:List (List Int)),xs=[V.ref l]/\SqL K H l vs/\Gf H vs kk/\vs.length<=40/\∀ (S:Addr) (o:HO) (ks:List (List Int)),H S=U5->K4 w (upd H S o) S ks->(∀ (k:List Int),k∈ks↔k∈kk)->Q (V.ref S) (upd H S o)
def wF (K:gK)(w:World):TS:=BO (Aq (g0 (iG 3) (g0 (tCB (P5 K) (g0 (tCB (Mz w) (g0 (tCB (Ug K w) (g0 (iG 8) i8)) i8)) i8)) i8)))
def eN (K:gK):TE:=Aq (g0 (tCB PZ (g0 (tOp (oP K) (iG 2) (iG 0)) (g0 (tOp (oP K) (iG 2) (iG 1)) i8))) (g0 (tCB P2 (g0 (tOp (oP K) (iG 2) (iG 0)) (g0 (tOp (oP K) (iG 2) (iG 1)) i8))) i8))
def wE (K:gK)(w:World):TS:=jx (λ D σ H=>tLC ["_law_one","_law_other"] [7] (Hf K (iG 8)) (Hc K 2 (vg (iW 0) (vg (iW 1) Hb))) HM (eN K) σ H λ v H'=>D.nx (List.set σ 8 (My v)) H') (wF K w)
def b2 (K:gK):TS:=jx (lU (jD kz [] E0 (g0 (iG 0) (g0 (iG 3) i8))) (iW 12)) (jx (lU (jD kz [] E0 (g0 (iG 0) (g0 (iG 3) i8))) (iW 13)) (NV (Hk (tOp rNe (iG 12) (iG 13))) (BN (tBM K "list" tj (iG 8) (g0 (Aq (g0 (iG 12) (g0 (iG 13) i8))) i8))) G_))
def wD (K:gK)(w:World):TS:=jx (Dp (BR (g0 (iG 5) i8)) (iW 11) (b2 K)) (wE K w)
def b1 (K:gK):TS:=jx (lU (jD kz [] E0 (g0 (iG 0) (g0 (iG 9) i8))) (iW 10)) (BN (tBM K "list" tj (iG 8) (g0 (Aq (g0 (tOp (oP K) (rV (g0 (tOp (rI0 λ i j=>V.int (i-j)) (iG 9) (tC (V.int 1))) (g0 (iG 10) (g0 (iG 10) (g0 (tC (V.int 0)) i8))))) (iG 4)) (g0 (iG 9) i8))) i8)))
def wC (K:gK)(w:World):TS:=jx (lU (rV i8) (iW 8)) (jx (Dp (MP (g0 (tC (V.int 1)) (g0 (iG 3) i8))) (iW 9) (b1 K)) (wD K w))
def eC (K:gK):TE:=tBM K "list" DC (iG 1) (g0 (jD kz [] E0 (g0 (iG 2) (g0 (tCB (Mx K) (g0 (iG 1) i8)) i8))) i8)
def wB (K:gK)(w:World):TS:=jx (lU (tLC ["_law_turn"] [6,0] (BR (g0 (iG 3) i8)) (iW 0) HM (eC K)) (iW 7)) (wC K w)
def wA (K:gK)(w:World):TS:=jx (lU (tOp (rI0 λ i j=>V.int (i+j)) (tC (V.int 2)) (jD kz [] E0 (g0 (iG 0) (g0 (tOp (rI0 λ i j=>V.int (i-j)) (iG 1) (tC (V.int 1))) i8)))) (iW 3)) (jx (lU (jD kz [] E0 (g0 (iG 0) (g0 (tC (V.int 4)) i8))) (iW 4)) (jx (lU (tOp (rI Kw λ i j=>V.int (i*j)) (tOp (oP K) (rV (g0 (tC (V.int 0)) (g0 (tC (V.int 1)) (g0 (tC (V.int 2)) (g0 (tC (V.int 12)) i8))))) (jD kz [] E0 (g0 (iG 0) (g0 (tC (V.int 4)) i8)))) (iG 2)) (iW 5)) (jx (lU (tCB P4 (g0 (tCB RI (g0 (iG 3) i8)) i8)) (iW 6)) (wB K w))))
def QW (K:gK)(p:Addr)(H:Hp)(thick:Nat)(rt:VK):Prop:=∀ v H' (n':Int) (w:Web),Good w->(thick=0->w.2.length+1=w.1)->Is K H' v (h_ w)->H' p=My (.lst [.int n'])->But p H H'->rt v H'
abbrev sgW (mo:V)(p:Addr)(thick m sh extra:Nat)(lf cl ti:V)(pl dr tu on ot:gJ V):L2.St:=[My (.ref p),My mo,My (iV thick),My (iV m),My (iV sh),My (iV extra),My lf,My cl,My ti,pl,dr,tu,on,ot]
theorem P6 {m:Nat}{xs:List Nat}{tb te:gN}{ss:List (Int×Int)}(Dr:Drawn m xs tb te)(hpw:ss.Pairwise λ a b=>Tb.pLt a b=U6)(memss:∀ k,k∈ss↔∃ t∈(tb++te).map (rel xs),k=((t.1:Int),(t.2:Int))) :
  Good (m,ss.map λ k=>(k.1.toNat,k.2.toNat))/\(te=[]->(ss.map λ k=>(k.1.toNat,k.2.toNat)).length+1=m):=by
 refine Lx Dr (ss:=ss.map λ k=>(k.1.toNat,k.2.toNat)) ?_ λ t=>?_
 ·rw[bq];refine eR ?_ hpw;intro a b ha hb hab;obtain⟨t,_,rfl⟩:=(memss a).mp ha;obtain⟨u,_,rfl⟩:=(memss b).mp hb;rw[Tb.pj]at hab;rw[lz];simp at hab ⊢;lia
 ·rw[aE]
  constructor
  ·rintro⟨k,hk,rfl⟩;obtain⟨u,hu,rfl⟩:=(memss k).mp hk;simpa using hu
  ·intro ht;exact⟨((t.1:Int),(t.2:Int)),(memss _).mpr ⟨t,ht,rfl⟩,by simp⟩
theorem MA {H:Hp}{ws:List V}{ss:List (Int×Int)}{l:gN}(memss:∀ k,k∈ss↔∃ t∈l,k=((t.1:Int),(t.2:Int)))(htups:Gf H ws (ss.map λ k=>[k.1,k.2])):TN H ws (ss.map λ k=>(k.1.toNat,k.2.toNat)):=by
 have back:(ss.map λ k=>(k.1.toNat,k.2.toNat)).map (λ t=>((t.1:Int),(t.2:Int)))=ss:=by
  rw[aU];conv=>rhs;rw[<-cY ss]
  refine bR λ k hk=>?_;obtain⟨t,_,rfl⟩:=(memss k).mp hk;simp
 unfold TN;have:(ss.map λ k=>(k.1.toNat,k.2.toNat)).map (λ t=>[(t.1:Int),(t.2:Int)])=ss.map λ k=>[k.1,k.2]:=by
  conv=>rhs;rw[<-back]
  rw[aU,aU,aU];rfl
 rw[this];exact htups
theorem RJ {D:Ends}{σ:L2.St}{p:Addr}{H:Hp}{thick m:Nat}{xs:List Nat}{tb te:gN}{q0:Addr}{H8:Hp}{ys:List V}{n7:Int}(q:QW K p H thick D.rt)(Dr:Drawn m xs tb te)(hte:thick=0->te=[])
  (h3:σ[3]?=My (My (iV m))) (h8:σ[8]?=My (My (.ref q0))) (y8:H8 q0=My (.lst ys)) (tn8:TN H8 ys ((tb++te).map (rel xs))) (p8:H8 p=My (.lst [.int n7])) (b8:But p H H8) (yl:(tb++te).length<=19):wF K w D σ H8:=by
 have hyl:=tn8.len;rw[ah]at hyl;refine⟨_,h3,_,h8,q0,ys,_,rfl,SqL.of y8,tn8,by lia,λ S o ks hS hset hmem=>?_⟩;have s1:g6 H8 (upd H8 S o):=g6.upd hS;have S0:H S=U5:=b8.none hS (aZ (iP p8 hS));have b9:But p H (upd H8 S o):=b8.new S0;have p9:=s1 _ _ p8;have ndks:ks.Nodup:=by obtain⟨_,_,_,_,_,_,_,_,_,_,_,nd,_⟩:=hset;exact nd
 generalize upd H8 S o=H9 at b9 p9 hset;have frm:=G2 λ k hk=>(hmem k).mp hk;have ksl:ks.length<=19:=by have:=aL ndks λ k hk=>(hmem k).mp hk;rw[ah,ah]at this;lia
 refine⟨S,ks.map λ k=>(k.getD 0 0,k.getD 1 0),rfl,by rw[frm];exact hset,by rw[ah];lia,λ sp ws ss hsp htups hpw hperm=>?_⟩;have sp0:H sp=U5:=b9.none hsp (aZ (iP p9 hsp));refine⟨sp,ws,rfl,.inl ⟨SqL.of gZ,λ tp htp=>?_⟩⟩;have s2:g6 H9 (upd (upd H9 sp (.lst ws)) tp (.tup ws)):=(g6.upd hsp).trans (g6.upd htp);have ntsp:tp≠sp:=λ z=>by rw[z,gZ]at htp;cases htp
 have htp9:H9 tp=U5:=by rw[hU ntsp]at htp;exact htp
 have tp0:H tp=U5:=b9.none htp9 (aZ (iP p9 htp9));have b10:But p H (upd (upd H9 sp (.lst ws)) tp (.tup ws)):=(b9.new sp0).new tp0;have p10:=s2 _ _ p9;have memss:∀ k,k∈ss↔∃ t∈(tb++te).map (rel xs),k=((t.1:Int),(t.2:Int)):=λ k=>by
  rw[hperm.mem_iff,aE];constructor
  ·rintro⟨l0,hl0,rfl⟩;obtain⟨t,ht,rfl⟩:=aE.mp ((hmem l0).mp hl0);exact⟨t,ht,rfl⟩
  ·rintro⟨t,ht,rfl⟩;exact⟨[(t.1:Int),(t.2:Int)],(hmem _).mpr (aE.mpr ⟨t,ht,rfl⟩),rfl⟩
 obtain⟨hgood,hthin⟩:=P6 Dr hpw memss;have hI:Is K (upd (upd H9 sp (.lst ws)) tp (.tup ws)) (.ref tp) _:=Is.tup (SqT.of gZ) (Df ((MA memss htups).text s2.text));generalize upd (upd H9 sp (.lst ws)) tp (.tup ws)=H10 at b10 p10 hI;refine⟨by show 2<=sizeLine;decide,λ fin hfin=>?_⟩;have s3:g6 H10 (upd H10 fin (.tup [.int m,.ref tp])):=g6.upd hfin;have f0:H fin=U5:=b10.none hfin (aZ (iP p10 hfin));exact q _ _ n7 (m,ss.map λ k=>(k.1.toNat,k.2.toNat)) hgood (λ h0=>hthin (hte h0)) (.tup (SqT.of gZ) (.cons (.int _) (.cons (hI.ext s3) .nil))) (s3 _ _ p10) (b10.new f0)
theorem RK {ti:Addr}{Q:VK}{σ:L2.St}{xs:List Nat}{m:Nat}{cl:Addr}{t:Nat×Nat}{H':Hp}(h0:σ[0]?=My (My (iV t.1)))(h1:σ[1]?=My (My (iV t.2)))(h2:σ[2]?=My (My (.ref cl)))(c7:H' cl=My (.lst (xs.map iV)))(l1:t.1<xs.length)(l2:t.2<xs.length)
  (q:∀ tt,H' tt=U5->Q (.ref tt) (upd H' tt (.tup [.int (rel xs t).1,.int (rel xs t).2]))):eN K σ H' Q:=by
 have a1:=NC (xs:=xs) l1;have a2:=NC (xs:=xs) l2;refine⟨_,h2,_,h0,cl,_,_,_,rfl,rfl,SqL.of c7,a1,_,h2,_,h1,cl,_,_,_,rfl,rfl,SqL.of c7,a2,_,_,rfl,_,h2,_,h0,cl,_,_,_,rfl,rfl,SqL.of c7,a1,_,h2,_,h1,cl,_,_,_,rfl,rfl,SqL.of c7,a2,_,_,rfl,by show 2<=sizeLine;decide,λ tt htt=>?_⟩;have erel:([V.int (if ((xs.getD t.2 0:Nat):Int)<((xs.getD t.1 0:Nat):Int) then ((xs.getD t.2 0:Nat):Int) else ((xs.getD t.1 0:Nat):Int)),V.int (if ((xs.getD t.2 0:Nat):Int)>((xs.getD t.1 0:Nat):Int) then ((xs.getD t.2 0:Nat):Int) else ((xs.getD t.1 0:Nat):Int))]:List V)=[.int (rel xs t).1,.int (rel xs t).2]:=by unfold rel;simp only[List.cons.injEq,V.int.injEq,and_true];constructor<;>(split<;>lia)
 rw[erel];exact q tt htt
def iE (p:Addr)(H:Hp)(xs:List Nat)(tb te:gN)(cl ti:Addr)(vs:List V)(n7:Int):Nat->Nat->List V->Hp->Prop:=λ i mm ys H'=>mm=vs.length-i/\i<=vs.length/\ys.length=i/\TN H' ys (((tb++te).take i).map (rel xs))/\H' ti=My (.lst vs)/\TN H' vs (tb++te)/\H' cl=My (.lst (xs.map iV))/\H' p=My (.lst [.int n7])/\But p H H'
theorem RL {mo:V}{D:Ends}{p:Addr}{H:Hp}{thick m sh extra:Nat}{xs:List Nat}{tb te:gN}{lf cl ti:Addr}{pl dr tu on ot:gJ V}{H7:Hp}{vs:List V}{n7:Int}(q:QW K p H thick D.rt)(Dr:Drawn m xs tb te)(hte:thick=0->te=[])
  (t7:H7 ti=My (.lst vs)) (tn7:TN H7 vs (tb++te)) (c7:H7 cl=My (.lst (xs.map iV))) (p7:H7 p=My (.lst [.int n7])) (b7:But p H H7) (hl:(tb++te).length<=19):wE K w D (sgW mo p thick m sh extra (.ref lf) (.ref cl) (.ref ti) pl dr tu on ot) H7:=by
 have hvl:=tn7.len;refine⟨_,rfl,ti,rfl,⟨_,SqL.of t7⟩,iE p H xs tb te cl ti vs n7,
  ⟨vs.length,rfl,aT _,rfl,.nil,t7,tn7,c7,p7,b7⟩,?_⟩
 clear t7 tn7 c7 p7 b7;rintro i mm ys H' ⟨rfl,hiv,hyl,tny,t7,tn7,c7,p7,b7⟩;rcases Nat.lt_or_ge i vs.length with hi' | hi'
 ·right
  have hxi:vs[i]?=My vs[i]:=by simp[hi']
  obtain⟨t,b,et,ev,hb⟩:=tn7.get hxi;have htm:=Dr.all (bt et);have hxl:xs.length=m:=Dr.len;refine⟨⟨vs,vs[i],SqL.of t7,hxi⟩,by rw[sizeLine_eq];lia,λ x H'' ⟨e1,yx⟩=>?_⟩;subst e1;have ex:=yx vs (SqL.of t7);rw[hxi]at ex;have ex:=ao ex;subst ex;refine⟨b,_,ev,SqT.of hb,rfl,_,_,rfl,_,_,rfl,rfl,?_⟩;dsimp only [HM];refine KR ?_;refine RK (ti:=ti) (m:=m) (t:=t) rfl rfl rfl c7 (by lia) (by lia) λ tt htt=>?_;have sm:g6 H'' (upd H'' tt (.tup [.int (rel xs t).1,.int (rel xs t).2])):=g6.upd htt;have tt0:H tt=U5:=b7.none htt (aZ (iP p7 htt));refine⟨vs.length-(i+1),by lia,rfl,hi',by simp[hyl],?_,sm _ _ t7,tn7.text sm.text,sm _ _ c7,sm _ _ p7,b7.new tt0⟩;rw[fq,et,bu];exact(tny.text sm.text).snoc (t:=rel xs t) gZ
 ·left
  have hi2:vs.length=i:=by lia
  subst hi2;rw[d_ (by lia)]at tny;refine⟨⟨vs,SqL.of t7,aw _⟩,λ q0 hq0=>?_⟩;have s0:g6 H' (upd H' q0 (.lst ys)):=g6.upd hq0;exact RJ (D:=D) q Dr hte rfl rfl gZ (tny.text s0.text) (s0 _ _ p7) (b7.new (b7.none hq0 (aZ (iP p7 hq0)))) hl
theorem P7 {mo:V}{D:Ends}{p:Addr}{thick m sh extra:Nat}{lf cl ti:Addr}{pl dr tu on ot:gJ V}{H':Hp}{vs:List V}{n7:Int}(m2:0<m)(m8:m<=8)(p7:H' p=My (.lst [.int n7]))(t7:H' ti=My (.lst vs))(ntp:ti≠p)(hvl:vs.length<=60)
  (h1:∀ (o1 o2:Nat) (n9:Int) on ot,D.nx (sgW mo p thick m sh extra (.ref lf) (.ref cl) (.ref ti) pl dr tu on ot) (upd H' p (.lst [.int n9])))
  (h2:∀ (o1 o2:Nat) (n9:Int) on ot tt,o1<m->o2<m->o1≠o2->upd H' p (.lst [.int n9]) tt=U5->D.nx (sgW mo p thick m sh extra (.ref lf) (.ref cl) (.ref ti) pl dr tu on ot) (upd (upd (upd H' p (.lst [.int n9])) tt (.tup [.int o1,.int o2])) ti (.lst (vs++[.ref tt])))) :
  b2 K D (sgW mo p thick m sh extra (.ref lf) (.ref cl) (.ref ti) pl dr tu on ot) H':=by
 have mp:(0:Int)<m:=by lia
 refine⟨_,rfl,_,rfl,p,n7,_,rfl,p7,mp,by show(m:Int)<_;lia,?_⟩;dsimp only;obtain⟨o1,ho1,o1m⟩:∃ d:Nat,n7 % (m:Int)=d/\d<m:=⟨(n7 % (m:Int)).toNat,by have:=bW n7 (show(m:Int)≠0 by lia);lia,by have:=cC n7 mp;have:=bW n7 (show(m:Int)≠0 by lia);lia⟩;rw[ho1];generalize n7 / (m:Int)=n8;have p8:upd H' p (.lst [.int n8]) p=My (.lst [.int n8]):=gZ;refine⟨_,rfl,_,rfl,p,n8,_,rfl,p8,mp,by show(m:Int)<_;lia,?_⟩;dsimp only;obtain⟨o2,ho2,o2m⟩:∃ d:Nat,n8 % (m:Int)=d/\d<m:=⟨(n8 % (m:Int)).toNat,by have:=bW n8 (show(m:Int)≠0 by lia);lia,by have:=cC n8 mp;have:=bW n8 (show(m:Int)≠0 by lia);lia⟩;rw[ho2];generalize n8 / (m:Int)=n9;have e9:upd (upd H' p (.lst [.int n8])) p (.lst [.int n9])=upd H' p (.lst [.int n9]):=by funext b;unfold upd;split<;>rfl
 rw[e9];have t8:upd H' p (.lst [.int n9]) ti=My (.lst vs):=by rw[hU ntp];exact t7
 refine⟨_,rfl,_,rfl,rfl,_,rfl,?_⟩;refine Om (λ hne=>?_) (λ _=>h1 o1 o2 n9 _ _);have hne:o1≠o2:=λ e=>by subst e;simp at hne
 refine⟨_,rfl,.inl ⟨rfl,_,SqL.of t8⟩,_,rfl,_,rfl,by show 2<=sizeLine;decide,λ tt htt=>?_⟩;refine⟨ti,vs,_,rfl,rfl,(g6.upd htt) _ _ t8,by rw[sizeLine_eq];lia,h2 o1 o2 n9 _ _ tt o1m o2m hne htt⟩
def iD (mo : V)(p : Addr)(H : Hp)(thick m sh extra : Nat)(xs : List Nat)(tb : List (Nat × Nat))(lf cl ti : Addr) : Nat -> L2.St -> Hp -> Prop := λ i σ' H' => ∃ (te : List (Nat × Nat)) (vs : List V) (n7 : Int) (pl dr tu on ot : gJ V), σ' = sgW mo p thick m sh extra (.ref lf) (.ref cl) (.ref ti) pl dr tu on ot /\
      te.length <= i /\ (∀ t ∈ te, t.1 < m /\ t.2 < m /\ t.1 ≠ t.2) /\ H' ti = My (.lst vs) /\ TN H' vs (tb ++ te) /\ H' cl = My (.lst (xs.map iV)) /\ H' p = My (.lst [.int n7]) /\ But p H H'
theorem RM {mo:V}{D:Ends}{p:Addr}{H:Hp}{thick m sh extra:Nat}{xs:List Nat}{tb:gN}{lf cl ti:Addr}{pl dr:gJ V}{H7:Hp}{vs:List V}{n7:Int}(q:QW K p H thick D.rt)(m2:2<=m)(m8:m<=8)(perm:xs.Perm (U8 m))
  (htl:tb.length=m-1) (htk:∀ k,k<m-1->∃ a,tb[k]?=My (a,k+1)/\a<=k) (hex2:extra<=12) (hex0:thick=0->extra=0) (ntp:ti≠p) (ntc:ti≠cl) (ncp:cl≠p) (hti0:H ti=U5)
  (t7:H7 ti=My (.lst vs)) (tn7:TN H7 vs tb) (c7:H7 cl=My (.lst (xs.map iV))) (p7:H7 p=My (.lst [.int n7])) (b7:But p H H7):wD K w D (sgW mo p thick m sh extra (.ref lf) (.ref cl) (.ref ti) pl dr U5 U5 U5) H7:=by
 have hext:((extra:Nat):Int).toNat=extra:=by lia
 refine⟨_,rfl,extra,rfl,by lia,by lia,oN (lo:=0) (n:=((extra:Nat):Int).toNat) (iD mo p H thick m sh extra xs tb lf cl ti)
  ⟨[],vs,n7,pl,dr,U5,U5,U5,rfl,aw _,(λ t ht=>by cases ht),t7,(by rw[bB];exact tn7),c7,p7,b7⟩ ?_ ?_⟩
 ·clear t7 tn7 c7 p7 b7
  rintro i σ' H' hi ⟨te,vs,n7,pl,dr,tu,on,ot,rfl,tel,teo,t7,tn7,c7,p7,b7⟩;have hvl:=tn7.len;rw[aK,htl]at hvl;have tx (n9:Int):kA H' (upd H' p (.lst [.int n9])):=kA.upd (by rw[p7];trivial);refine P7 (by lia) m8 p7 t7 ntp (by lia) (λ o1 o2 n9 on ot=>⟨te,vs,n9,_,_,_,_,_,rfl,by lia,teo,?_,tn7.text (tx n9),?_,gZ,b7.sW⟩) λ o1 o2 n9 on ot tt o1m o2m hne htt=>?_
  ·rw[hU ntp];exact t7
  ·rw[hU ncp];exact c7
  ·have t8:upd H' p (.lst [.int n9]) ti=My (.lst vs):=by rw[hU ntp];exact t7
   have c8:upd H' p (.lst [.int n9]) cl=My (.lst (xs.map iV)):=by rw[hU ncp];exact c7
   have p8:upd H' p (.lst [.int n9]) p=My (.lst [.int n9]):=gZ;have b8:But p H (upd H' p (.lst [.int n9])):=b7.sW;have tn8:=tn7.text (tx n9);generalize upd H' p (.lst [.int n9])=H8 at tn8 t8 c8 p8 b8 htt;have sm:g6 H8 (upd H8 tt (.tup [.int o1,.int o2])):=g6.upd htt;have tt0:H tt=U5:=b8.none htt (aZ (iP p8 htt));have b9:=b8.new tt0 (o:=.tup [.int o1,.int o2]);have tu9:upd H8 tt (.tup [.int o1,.int o2]) tt=My (.tup [.int o1,.int o2]):=gZ;have t9:=sm _ _ t8;have c9:=sm _ _ c8;have p9:=sm _ _ p8;have tn9:=tn8.text sm.text;generalize upd H8 tt (.tup [.int o1,.int o2])=H9 at b9 tu9 t9 c9 p9 tn9;have tx:kA H9 (upd H9 ti (.lst (vs++[.ref tt]))):=kA.upd (by rw[t9];trivial);refine⟨te++[(o1,o2)],vs++[.ref tt],n9,_,_,_,_,_,rfl,by rw[aK,bG];lia,λ t ht=>?_,gZ,?_,by rw[hU (aZ ntc)];exact c9,by rw[hU (aZ ntp)];exact p9,b9.new hti0⟩
   ·rcases a_.mp ht with z | z
    ·exact teo t z
    ·rw[bp.mp z];exact⟨o1m,o2m,hne⟩
   ·rw[<-cy];exact(tn9.snoc (t:=(o1,o2)) tu9).text tx
 ·clear t7 tn7 c7 p7 b7;rintro σ' H' ⟨te,vs,n7,pl,dr,tu,on,ot,rfl,tel,teo,t7,tn7,c7,p7,b7⟩;rw[hext]at tel;exact RL (D:=D) q ⟨m2,m8,perm,htl,htk,teo,by lia⟩ (λ h0=>cS.mp (by have:=hex0 h0;lia)) t7 tn7 c7 p7 b7 (by rw[aK];lia)
theorem P8 {mo:V}{D:Ends}{p:Addr}{thick m sh extra i:Nat}{lf cl ti:Addr}{dr tu on ot:gJ V}{H':Hp}{vs:List V}{n7:Int}(hi:i<8)(sh4:sh<4)(p7:H' p=My (.lst [.int n7]))(t7:H' ti=My (.lst vs))(ntp:ti≠p)(hvl:vs.length<=60)
  (h:∀ (a dr':Nat) (n8:Int) q4 tu',a<=i->upd H' p (.lst [.int n8]) q4=U5->upd (upd H' p (.lst [.int n8])) q4 (.lst [V.int (1+(i:Int)-1),iV dr',iV dr',V.int 0]) tu'=U5 ->
   D.nx (sgW mo p thick m sh extra (.ref lf) (.ref cl) (.ref ti) (My (.int (1+(i:Int)))) (My (iV dr')) tu on ot) (upd (upd (upd (upd H' p (.lst [.int n8])) q4 (.lst [V.int (1+(i:Int)-1),iV dr',iV dr',V.int 0])) tu' (.tup [iV a,.int (1+(i:Int))])) ti (.lst (vs++[.ref tu'])))) :
  b1 K D (sgW mo p thick m sh extra (.ref lf) (.ref cl) (.ref ti) (My (.int (1+(i:Int)))) dr tu on ot) H':=by
 refine⟨_,rfl,_,rfl,p,n7,_,rfl,p7,by lia,by lia,?_⟩;dsimp only;obtain⟨dr',hdr,dri⟩:∃ d:Nat,n7 % (1+(i:Int))=d/\d<=i:=⟨(n7 % (1+(i:Int))).toNat,by have:=bW n7 (show(1+(i:Int))≠0 by lia);lia,by have:=cC n7 (show(0:Int)<1+(i:Int) by lia);have:=bW n7 (show(1+(i:Int))≠0 by lia);lia⟩;rw[hdr];generalize n7 / (1+(i:Int))=n8;have t8:upd H' p (.lst [.int n8]) ti=My (.lst vs):=by rw[hU ntp];exact t7
 obtain⟨pa',hpa,pai⟩:∃ a:Nat,([V.int (1+(i:Int)-1),iV dr',iV dr',V.int 0]:List V)[sh]?=My (iV a)/\a<=i:=by
  rcases (by lia:sh=0\/sh=1\/sh=2\/sh=3) with rfl | rfl | rfl | rfl
  ·exact⟨i,by simp[iV];lia,by lia⟩
  ·exact⟨dr',rfl,dri⟩
  ·exact⟨dr',rfl,dri⟩
  ·exact⟨0,rfl,by lia⟩
 refine⟨_,rfl,.inl ⟨rfl,_,SqL.of t8⟩,_,rfl,_,_,rfl,rfl,_,rfl,_,rfl,by show 4<=sizeLine;decide,λ q4 hq4=>?_⟩;refine⟨_,rfl,q4,_,_,iV pa',rfl,rfl,SqL.of gZ,lJ hpa,_,rfl,by show 2<=sizeLine;decide,λ tu htu=>?_⟩;exact⟨ti,vs,_,rfl,rfl,((g6.upd hq4).trans (g6.upd htu)) _ _ t8,by rw[sizeLine_eq];lia,h pa' dr' n8 q4 tu pai hq4 htu⟩
def iC (mo : V)(p : Addr)(H : Hp)(thick m sh extra : Nat)(xs : List Nat)(lf cl ti : Addr) : Nat -> L2.St -> Hp -> Prop := λ i σ' H' => ∃ (tb : List (Nat × Nat)) (vs : List V) (n7 : Int) (pl dr : gJ V), σ' = sgW mo p thick m sh extra (.ref lf) (.ref cl) (.ref ti) pl dr U5 U5 U5 /\
      tb.length = i /\ (∀ k, k < i -> ∃ a, tb[k]? = My (a, k + 1) /\ a <= k) /\ H' ti = My (.lst vs) /\ TN H' vs tb /\ H' cl = My (.lst (xs.map iV)) /\ H' p = My (.lst [.int n7]) /\ But p H H'
theorem RN {mo:V}{D:Ends}{p:Addr}{H:Hp}{thick m sh extra:Nat}{xs:List Nat}{lf cl:Addr}{H6:Hp}{n5:Int}(q:QW K p H thick D.rt)(m2:2<=m)(m8:m<=8)(sh4:sh<4)(perm:xs.Perm (U8 m))(hex2:extra<=12)(hex0:thick=0->extra=0)(ncp:cl≠p)
  (c6:H6 cl=My (.lst (xs.map iV))) (p6:H6 p=My (.lst [.int n5])) (b6:But p H H6):wC K w D [My (.ref p),My mo,My (iV thick),My (iV m),My (iV sh),My (iV extra),My (.ref lf),My (.ref cl),U5,U5,U5,U5,U5,U5] H6:=by
 refine⟨aT _,λ ti hti=>?_⟩;have ntp:ti≠p:=λ z=>by subst z;rw[p6]at hti;cases hti
 have ntc:ti≠cl:=λ z=>by subst z;rw[c6]at hti;cases hti
 have hti0:H ti=U5:=b6.none hti ntp;have hm1:((m:Int)-1).toNat=m-1:=by lia
 refine⟨_,rfl,1,m,rfl,⟨by lia,by lia,by lia,by lia⟩,oN (lo:=1) (n:=((m:Int)-1).toNat) (iC mo p H thick m sh extra xs lf cl ti)
  ⟨[],[],n5,U5,U5,rfl,rfl,λ k hk=>by lia,gZ,.nil,by rw[hU (aZ ntc)];exact c6,by rw[hU (aZ ntp)];exact p6,b6.new hti0⟩ ?_ ?_⟩
 ·clear c6 p6 b6
  rintro i σ' H' hi ⟨tb,vs,n7,pl,dr,rfl,htl,htk,t7,tn7,c7,p7,b7⟩;have hi1:i<m-1:=by lia
  refine P8 (by lia) sh4 p7 t7 ntp (by rw[tn7.len];lia) λ pa' dr' n8 q4 tu pai hq4 htu=>?_;have tn8:=tn7.text (kA.upd (o:=.lst [.int n8]) (by rw[p7];trivial));have t8:upd H' p (.lst [.int n8]) ti=My (.lst vs):=by rw[hU ntp];exact t7
  have c8:upd H' p (.lst [.int n8]) cl=My (.lst (xs.map iV)):=by rw[hU ncp];exact c7
  have p8:upd H' p (.lst [.int n8]) p=My (.lst [.int n8]):=gZ;have b8:But p H (upd H' p (.lst [.int n8])):=b7.sW;generalize upd H' p (.lst [.int n8])=H8 at tn8 t8 c8 p8 b8 hq4 htu;clear tn7 t7 c7 p7 b7;generalize [V.int (1+(i:Int)-1),iV dr',iV dr',V.int 0]=l4 at htu;have ntq:tu≠q4:=λ y=>by rw[y,gZ]at htu;cases htu
  have htu8:H8 tu=U5:=by rw[hU ntq]at htu;exact htu
  have q40:H q4=U5:=b8.none hq4 (aZ (iP p8 hq4));have tu0:H tu=U5:=b8.none htu8 (aZ (iP p8 htu8));have sm:g6 H8 (upd (upd H8 q4 (.lst l4)) tu (.tup [iV pa',.int (1+(i:Int))])):=(g6.upd hq4).trans (g6.upd htu);have b9:=(b8.new q40 (o:=.lst l4)).new tu0 (o:=.tup [iV pa',.int (1+(i:Int))]);have tu9:upd (upd H8 q4 (.lst l4)) tu (.tup [iV pa',.int (1+(i:Int))]) tu=My (.tup [iV pa',.int (1+(i:Int))]):=gZ;have t9:=sm _ _ t8;have c9:=sm _ _ c8;have p9:=sm _ _ p8;have tn9:=tn8.text sm.text;generalize upd (upd H8 q4 (.lst l4)) tu (.tup [iV pa',.int (1+(i:Int))])=H9 at b9 tu9 t9 c9 p9 tn9;have tx:kA H9 (upd H9 ti (.lst (vs++[.ref tu]))):=kA.upd (by rw[t9];trivial);refine⟨tb++[(pa',i+1)],vs++[.ref tu],n8,_,_,rfl,by rw[aK,bG,htl],λ k hk=>?_,gZ,?_,by rw[hU (aZ ntc)];exact c9,by rw[hU (aZ ntp)];exact p9,b9.new hti0⟩
  ·by_cases hki:k<i
   ·obtain⟨a,ea,ha⟩:=htk k hki;exact⟨a,by rw[bS (by lia)];exact ea,ha⟩
   ·have:k=i:=by lia
    subst this;exact⟨pa',by rw[bM (by lia)];simp[htl],pai⟩
  ·refine(tn9.snoc (t:=(pa',i+1)) ?_).text tx;rw[tu9];simp[iV];lia
 ·rintro σ' H' ⟨tb,vs,n7,pl,dr,rfl,htl,htk,t7,tn7,c7,p7,b7⟩;rw[hm1]at htl htk;exact RM (D:=D) q m2 m8 perm htl htk hex2 hex0 ntp ntc ncp hti0 t7 tn7 c7 p7 b7
theorem RO {Q:VK}{σ:L2.St}{p lf:Addr}{L:List Nat}{n5:Int}{H':Hp}(h1:σ[1]?=My (My (.ref lf)))(h2:σ[2]?=My (My (.ref p)))(nlp:lf≠p)(hL:0<L.length)(hL8:L.length<=8)(l5:H' lf=My (.lst (L.map iV)))(p5:H' p=My (.lst [.int n5]))
  (q:∀ (j:Nat) (n6:Int) (jl:j<L.length),Q (iV L[j]) (upd (upd H' p (.lst [.int n6])) lf (.lst ((L.map iV).eraseIdx j)))):eC K σ H' Q:=by
 obtain⟨j,hj,jl⟩:∃ j:Nat,n5 % ((L.map iV).length:Int)=j/\j<L.length:=by rw[ah];exact⟨(n5 % (L.length:Int)).toNat,by have:=bW n5 (show(L.length:Int)≠0 by lia);lia,by have:=cC n5 (show(0:Int)<L.length by lia);have:=bW n5 (show(L.length:Int)≠0 by lia);lia⟩
 refine⟨_,h1,.inl ⟨rfl,_,SqL.of l5⟩,_,h2,_,h1,lf,_,rfl,.inl (SqL.of l5),p,n5,_,rfl,p5,by rw[ah];lia,by rw[ah];lia,?_⟩;rw[hj];have l6:upd H' p (.lst [.int (n5 / ((L.map iV).length:Int))]) lf=My (.lst (L.map iV)):=by rw[hU nlp];exact l5
 refine⟨lf,_,_,j,iV L[j],rfl,rfl,l6,by lia,by lia,?_,by simp[jl],q j _ jl⟩;rw[ah];have:=seqIndex_of (k:=(j:Int)) (n:=L.length) (by lia) (by lia);simpa using this
def iB (p:Addr)(H:Hp)(m:Nat)(lf:Addr):Nat->Nat->List V->Hp->Prop:=λ i mm ys H5=>mm=m-i/\i<=m/\∃ (xs L:List Nat) (n5:Int),ys=xs.map iV/\xs.length=i/\L.length=m-i/\(xs++L).Perm (U8 m)/\H5 lf=My (.lst (L.map iV))/\H5 p=My (.lst [.int n5])/\But p H H5
theorem RP {mo:V}{D:Ends}{p:Addr}{H:Hp}{thick m sh extra:Nat}{lf:Addr}{H4:Hp}{n3:Int}(q:QW K p H thick D.rt)(m2:2<=m)(m8:m<=8)(sh4:sh<4)(hex2:extra<=12)(hex0:thick=0->extra=0)(nlp:lf≠p)(hlf0:H lf=U5)
  (l4:H4 lf=My (.lst ((U8 m).map iV))) (p4:H4 p=My (.lst [.int n3])) (b4:But p H H4):wB K w D [My (.ref p),My mo,My (iV thick),My (iV m),My (iV sh),My (iV extra),My (.ref lf),U5,U5,U5,U5,U5,U5,U5] H4:=by
 refine⟨_,rfl,m,rfl,by lia,by lia,iB p H m lf,⟨m,rfl,aT _,[],U8 m,n3,rfl,rfl,by simp,by simp,l4,p4,b4⟩,?_⟩;clear l4 p4 b4;rintro i mm ys H5 ⟨rfl,him,xs,L,n5,rfl,hxs,hL,perm,l5,p5,b5⟩;rcases Nat.lt_or_ge i m with him' | him'
 ·right
  refine⟨by show i<(m:Int).toNat;lia,by rw[ah,sizeLine_eq];lia,λ x H' ⟨e1,e2⟩=>?_⟩;subst e1;dsimp only [iW,HM];refine KR ?_;refine RO (L:=L) rfl rfl nlp (by lia) (by lia) l5 p5 λ j n6 jl=>?_;refine⟨m-(i+1),by lia,rfl,by lia,xs++[L[j]],L.eraseIdx j,n6,by simp[iV],by simp[hxs],?_,?_,?_,by rw[hU (aZ nlp)];exact gZ,(b5.sW).new hlf0⟩
  ·rw[List.length_eraseIdx,ai jl];lia
  ·refine List.Perm.trans ?_ perm;rw[cy];exact List.Perm.append_left xs (yJ L jl)
  ·rw[gZ,Ag]
 ·left
  have hi:m=i:=by lia
  subst hi;have hL0:L=[]:=cS.mp (by lia);subst hL0;rw[bB]at perm;refine⟨by show(m:Int).toNat<=m;lia,λ cl hcl=>?_⟩;have ncp:cl≠p:=λ z=>by subst z;rw[p5]at hcl;cases hcl
  exact RN (D:=D) q m2 m8 sh4 perm hex2 hex0 ncp gZ (by rw[hU (aZ ncp)];exact p5) (b5.new (b5.none hcl ncp))
theorem RQ {D:Ends}{p:Addr}{H:Hp}{mo thick:Nat}{n:Int}(q:QW K p H thick D.rt)(hmo:2<=mo/\mo<=8)(hth:thick<=1)(hp:H p=My (.lst [.int n])):wA K w D [My (.ref p),My (.int mo),My (.int thick),U5,U5,U5,U5,U5,U5,U5,U5,U5,U5,U5] H:=by
 refine⟨_,rfl,_,rfl,_,_,rfl,rfl,p,n,_,rfl,hp,by lia,by lia,_,_,rfl,rfl,?_⟩;dsimp only;obtain⟨m,hm,m2,m8⟩:∃ m:Nat,(2:Int)+n % ((mo:Int)-1)=m/\2<=m/\m<=8:=by have h0:=bW n (show(mo:Int)-1≠0 by lia);have h1:=cC n (show(0:Int)<(mo:Int)-1 by lia);exact⟨(2+n % ((mo:Int)-1)).toNat,by lia,by lia,by lia⟩
 rw[hm];generalize n / ((mo:Int)-1)=n1;have b1:But p H (upd H p (.lst [.int n1])):=(But.refl p H).sW;generalize hH1:upd H p (.lst [.int n1])=H1 at b1;have p1:H1 p=My (.lst [.int n1]):=by rw[<-hH1];exact gZ
 clear hH1;refine⟨_,rfl,p,n1,_,rfl,p1,by decide,by decide,?_⟩;dsimp only;obtain⟨sh,hsh,sh4⟩:∃ sh:Nat,n1 % 4=sh/\sh<4:=⟨(n1 % 4).toNat,by lia,by lia⟩;rw[hsh];generalize n1 / 4=n2;have b2:But p H (upd H1 p (.lst [.int n2])):=b1.sW;generalize hH2:upd H1 p (.lst [.int n2])=H2 at b2;have p2:H2 p=My (.lst [.int n2]):=by rw[<-hH2];exact gZ
 clear hH2;refine⟨by show 4<=sizeLine;decide,λ a4 h4=>?_⟩;have np4:a4≠p:=λ z=>by subst z;rw[p2]at h4;cases h4
 have p3:upd H2 a4 (.lst [.int 0,.int 1,.int 2,.int 12]) p=My (.lst [.int n2]):=by rw[hU (aZ np4)];exact p2
 refine⟨_,rfl,p,n2,_,rfl,p3,by decide,by decide,?_⟩;dsimp only;obtain⟨ei,hei,ei4⟩:∃ ei:Nat,n2 % 4=ei/\ei<4:=⟨(n2 % 4).toNat,by lia,by lia⟩;rw[hei];generalize n2 / 4=n3;obtain⟨ex,hex,ex12⟩:∃ ex:Nat,([V.int 0,V.int 1,V.int 2,V.int 12]:List V)[ei]?=My (.int ex)/\ex<=12:=by
  rcases (by lia:ei=0\/ei=1\/ei=2\/ei=3) with rfl | rfl | rfl | rfl
  ·exact⟨0,rfl,by lia⟩
  ·exact⟨1,rfl,by lia⟩
  ·exact⟨2,rfl,by lia⟩
  ·exact⟨12,rfl,by lia⟩
 have b3:But p H (upd (upd H2 a4 (.lst [.int 0,.int 1,.int 2,.int 12])) p (.lst [.int n3])):=(b2.new (b2.none h4 np4)).sW;refine⟨a4,_,_,.int ex,rfl,rfl,SqL.of (by rw[hU np4];exact gZ),lJ hex,?_⟩;generalize hH3:upd (upd H2 a4 (.lst [.int 0,.int 1,.int 2,.int 12])) p (.lst [.int n3])=H3 at b3;have p3:H3 p=My (.lst [.int n3]):=by rw[<-hH3];exact gZ
 clear hH3;refine⟨_,rfl,_,_,rfl,rfl,.inl ⟨by lia,by lia⟩,?_⟩;dsimp only;rw[show(ex:Int)*(thick:Int)=((ex*thick:Nat):Int) by simp];have hex2:ex*thick<=12:=by have:=Nat.mul_le_mul ex12 hth;lia
 have hex0:thick=0->ex*thick=0:=λ h=>by rw[h];simp
 generalize ex*thick=extra at hex2 hex0;refine⟨_,rfl,_,rfl,λ r hr0=>?_⟩;refine⟨r,m,rfl,gZ,by lia,λ lf hlf=>?_⟩;have nrp:r≠p:=λ z=>by subst z;rw[p3]at hr0;cases hr0
 have nlr:lf≠r:=λ z=>by subst z;rw[gZ]at hlf;cases hlf
 have hlf3:H3 lf=U5:=by rw[hU nlr]at hlf;exact hlf
 have nlp:lf≠p:=λ z=>by subst z;rw[p3]at hlf3;cases hlf3
 have hlf0:H lf=U5:=b3.none hlf3 nlp;exact RP (D:=D) q m2 m8 sh4 hex2 hex0 nlp hlf0 gZ (by rw[hU (aZ nlp),hU (aZ nrp)];exact p3) ((b3.new (b3.none hr0 nrp)).new hlf0)
theorem P9 (T:Txt K mg):OkT P w base T.qc 2 (ND K):=by
 refine T.qc.F.ok jA (λ vs H Q E h=>?_) (λ cdv A outer s H vs Q E hr h=>?_)
 ·obtain⟨p,n,mo,thick,rfl,_⟩:=h;rfl
 ·obtain⟨p,n,mo,thick,rfl,hmo,hth,hp,q⟩:=h
  have hu:(A.deeper (envOfC "_law_web" (gY sS) s.heap.objs.size T.qc.f cdv)).units+64<cLine:=by have:=hr.un;lia
  have hrt:jI 1 _:=hr.mono (by decide);refine⟨wA K w,g9 (iY (i:=3) jA.nd rfl (Or.inl rfl) (jM qB ic (pC T.iJ (jL T) hr (gW (pv 0) (gW (jM Al (pv 1) ic) hZ)))))
   (g9 (iY (i:=4) jA.nd rfl (Or.inl rfl) (pC T.iJ (jL T) hr (gW (pv 0) (gW ic hZ))))
   (g9 (iY (i:=5) jA.nd rfl (Or.inl rfl) (jM uJ (mq kK (kG (gW ic (gW ic (gW ic (gW ic hZ))))) (pC T.iJ (jL T) hr (gW (pv 0) (gW ic hZ))) (λ _ _=>rfl)) (pv 2)))
   (g9 (iY (i:=6) jA.nd rfl (Or.inr rfl) (kW (xO rfl) rfl T.yF boot_list (gW (kW vB rfl T.jh boot_range (gW (pv 3) hZ)) hZ)))
   (g9 (iY (i:=7) jA.nd rfl (Or.inr rfl) (M3 (te:=tBM K "list" DC (iG 1) (g0 (jD kz [] E0 (g0 (iG 2) (g0 (tCB (Mx K) (g0 (iG 1) i8)) i8))) i8)) rfl (csc ["_law_turn"] ["_law_left","_law_pot_here"] [6,0]) (nD rfl T.jh (gW (pv 3) hZ)) (λ _ _ _ _=>pgo 0) iO (λ _ _ _ _=>DR)
     (λ _ _ _ _=>xc cT PySem.F.slot_list_pop PySem.F.type_list_pop Hs (pv 1) (gW (pC T.iJ (jL T) hr (gW (pv 2) (gW (kD lX (by rfl) T.rm cB (gW (pv 1) hZ)) hZ))) hZ))))
   (g9 (iY (i:=8) jA.nd rfl (Or.inl rfl) (kG hZ))
   (g9 (qA bj rfl (FY rfl T.jh (gW ic (gW (pv 3) hZ))) (pgo 9)
    (g9 (iY (i:=10) jA.nd rfl (Or.inl rfl) (pC T.iJ (jL T) hr (gW (pv 0) (gW (pv 9) hZ))))
    (ji (sZ (xc cT dR dS rz (pv 8) (gW (qC (gW (mq kK (kG (gW (jM Al (pv 9) ic) (gW (pv 10) (gW (pv 10) (gW ic hZ))))) (pv 4) (λ _ _=>rfl)) (gW (pv 9) hZ))) hZ))))))
   (g9 (qA bj rfl (nD rfl T.jh (gW (pv 5) hZ)) (pgo 11)
    (g9 (iY (i:=12) jA.nd rfl (Or.inl rfl) (pC T.iJ (jL T) hr (gW (pv 0) (gW (pv 3) hZ))))
    (g9 (iY (i:=13) jA.nd rfl (Or.inl rfl) (pC T.iJ (jL T) hr (gW (pv 0) (gW (pv 3) hZ))))
    (ji (wR (wd MQ (pv 12) (pv 13) (wY _)) (ji (sZ (xc cT dR dS rz (pv 8) (gW (qC (gW (pv 12) (gW (pv 13) hZ))) hZ)))) o_)))))
   (g9 (M4 (i:=8) (g:=Hc K 2 (vg (iW 0) (vg (iW 1) Hb))) (te:=Aq (g0 (tCB PZ (g0 (tOp (oP K) (iG 2) (iG 0)) (g0 (tOp (oP K) (iG 2) (iG 1)) i8))) (g0 (tCB P2 (g0 (tOp (oP K) (iG 2) (iG 0)) (g0 (tOp (oP K) (iG 2) (iG 1)) i8))) i8))) jA.nd rfl (Or.inl rfl) rfl (csc ["_law_one","_law_other"] ["_law_called"] [7]) (Ak (pv 8)) (λ _ _ _ _=>mW rfl (iZ (pgo 0) (iZ (pgo 1) lI))) (qI (jX (by decide) (jX (by decide) oR))) (λ _ _ _ _=>DR)
     (λ _ _ _ _=>qC (gW (kD (uM (by rfl)) (by rfl) T.JW boot_min (gW (mq kK (pv 2) (pv 0) (λ _ _=>rfl)) (gW (mq kK (pv 2) (pv 1) (λ _ _=>rfl)) hZ))) (gW (kD (uL (by rfl)) (by rfl) T.JX boot_max (gW (mq kK (pv 2) (pv 0) (λ _ _=>rfl)) (gW (mq kK (pv 2) (pv 1) (λ _ _=>rfl)) hZ))) hZ))))
   (ji (lW (qC (gW (pv 3) (gW (kW oD rfl T.lK boot_tuple (gW (kD (xu rfl) rfl T.rn boot_sorted (gW (kW (HS rfl hu) rfl T.NB boot_set (gW (pv 8) hZ)) hZ)) hZ)) hZ))))))))))))),?_⟩
  exact RQ q hmo hth hp
end
section
variable {P:Program}{w:World}{K:gK}{mg:gG}{base:Heap}
theorem Dg {σ:L2.St}{H:Hp}{a C:Addr}(h0:σ[0]?=My (My (.ref a)))(h1:H a=My (.ext (isC a (.ref C))))(bs:List Bool)(hl:bs.length<=100){Q:VK}(q:∀ v H',g6 H H'->Is K H' v (.lst (bs.map .bl))->Q v H'):rV (tIs C bs) σ H Q :=
 Ji h0 h1 bs _ ⟨by rw[ah,sizeLine_eq];lia,λ p hp=>q _ _ (g6.upd hp) (.lst gZ (CN bs))⟩
theorem Kd {σ:L2.St}{H:Hp}{a C:Addr}{v:V}{bs:List Bool}(h0:σ[0]?=My (My (.ref a)))(h1:H a=My (.ext (isC a (.ref C))))(hv:σ[1]?=My (My v))(iv:Is K H v (.lst (bs.map .bl)))(cs:List Bool)(hl:bs.length+cs.length<=100){Q:VK}(q:∀ v H',g6 H H'->Is K H' v (.lst ((bs++cs).map .bl))->Q v H'):tOp (rD K rZ) (iG 1) (rV (tIs C cs)) σ H Q :=
 ⟨_,hv,Dg (K:=K) h0 h1 cs (by lia) λ v2 H2 s2 i2=>⟨_,_,_,iv.ext s2,i2,ai (by rw[ah,ah];lia),λ v3 H3 s3 i3=>q _ _ (s2.trans s3) (by rw[bu];exact i3)⟩⟩
theorem Uh {u:TS}{D:Ends}{σ:L2.St}{H:Hp}{a C:Addr}(h0:σ[0]?=My (My (.ref a)))(h1:H a=My (.ext (isC a (.ref C))))(bs:List Bool)(hl:bs.length<=100)(q:∀ v H',g6 H H'->Is K H' v (.lst (bs.map .bl))->u D (σ.set 1 (My v)) H'):jx (lU (rV (tIs C bs)) (iW 1)) u D σ H :=
 Dg (K:=K) h0 h1 bs hl q
theorem P_ {u:TS}{D:Ends}{σ:L2.St}{H:Hp}{a C:Addr}{v:V}{bs:List Bool}(h0:σ[0]?=My (My (.ref a)))(h1:H a=My (.ext (isC a (.ref C))))(hv:σ[1]?=My (My v))(iv:Is K H v (.lst (bs.map .bl)))(cs:List Bool)(hl:bs.length+cs.length<=100)(q:∀ v H',g6 H H'->Is K H' v (.lst ((bs++cs).map .bl))->u D (σ.set 1 (My v)) H'):jx (lU (tOp (rD K rZ) (iG 1) (rV (tIs C cs))) (iW 1)) u D σ H :=
 Kd (K:=K) h0 h1 hv iv cs hl q
def MB (K:gK)(mg:gG)(er:zd K mg):Sp:=λ vs H Q _=>∃ a c,vs=[.ref a]/\c∈u9/\H a=My (.ext (isC a (.ref (er.C c))))/\∀ H',g6 H H'->Q (.str (CO c)) H'
theorem G3:∃ es p1 p5 p2,iU mU=(iU mU).take 5++(.Assign [.Name "_law_words" p1] (.List es p5) p2::(iU mU).drop 6)/\va es ["web","place","tree","tie","text","number","shares","two","stream","paper","apart","many"]:=⟨_,_,_,_,rfl,(.cons (.cons (.cons (.cons (.cons (.cons (.cons (.cons (.cons (.cons (.cons (.cons .nil))))))))))))⟩
theorem MC (T:Txt K mg):Je P w K mg base 1 T.oB.f T.oB.fd ["_law_e"] (MB K mg T.er):=by
 refine T.oB.F.okN la (λ vs H Q E h=>?_) (λ cdv A outer s H vs Q E hr h=>?_)
 ·obtain⟨a,c,rfl,_⟩:=h;rfl
 ·obtain⟨a,c,rfl,hc,ha,q⟩:=h
  have hu:=hr.units;obtain⟨i,hi,ei⟩:=Jp hc;obtain⟨eC,eW⟩:=Jq T.er i hi ei;rw[eC]at ha;have cx:=(T.er.ci i hi).ext;obtain⟨es,p1,p5,p2,eb,hes⟩:=G3;rw[eb];refine⟨_,g9 (iY (i:=1) la.nd rfl (Or.inl rfl) (kG (gW (lN T.ie cx (T.er.ck 0 T.er.ug rfl (by decide) hi) (pv 0)) (gW (lN T.ie cx (T.er.ck 1 T.er.o6 rfl (by decide) hi) (pv 0)) (gW (lN T.ie cx (T.er.ck 2 T.er.uh rfl (by decide) hi) (pv 0)) (gW (lN T.ie cx (T.er.ck 3 T.er.wG rfl (by decide) hi) (pv 0)) hZ))))))
   (g9 (iY (i:=1) la.nd rfl (Or.inl rfl) (jM ql (pv 1) (kG (gW (lN T.ie cx (T.er.ck 4 T.er.ui rfl (by decide) hi) (pv 0)) (gW (lN T.ie cx (T.er.ck 5 T.er.nR rfl (by decide) hi) (pv 0)) (gW (lN T.ie cx (T.er.ck 6 T.er.pQ rfl (by decide) hi) (pv 0)) (gW (lN T.ie cx (T.er.ck 7 T.er.wH rfl (by decide) hi) (pv 0)) hZ)))))))
   (g9 (iY (i:=1) la.nd rfl (Or.inl rfl) (jM ql (pv 1) (kG (gW (lN T.ie cx (T.er.ck 8 T.er.pR rfl (by decide) hi) (pv 0)) (gW (lN T.ie cx (T.er.ck 9 T.er.rN rfl (by decide) hi) (pv 0)) (gW (lN T.ie cx (T.er.ck 10 T.er.wI rfl (by decide) hi) (pv 0)) (gW (lN T.ie cx (T.er.ck 11 T.er.rO rfl (by decide) hi) (pv 0)) hZ)))))))
   (g9 (iY (i:=1) la.nd rfl (Or.inl rfl) (jM ql (pv 1) (kG (gW (lN T.ie cx (T.er.ck 12 T.er.uj rfl (by decide) hi) (pv 0)) (gW (lN T.ie cx (T.er.ck 13 T.er.uk rfl (by decide) hi) (pv 0)) (gW (lN T.ie cx (T.er.ck 14 T.er.um rfl (by decide) hi) (pv 0)) hZ))))))
   (g9 (wR (PW.pt (MO (jZ (DW hu) (Pe (dv 1) tI) hX) (G8 (G9 (NQ (Pg T.ie T.BC cx (T.er.ci i hi).ve (pv 0))))))) (ji (lW qK)) o_)
   (iq (jn (i:=2) la.nd (lZ hes.pd) (hs:=Ma)) (ik (iQ (jC (jt ql (dv 2) (lZ (gQ qK (gQ qK (gQ qK gX))))) (Pf (dv 1) tI))))))))),?_⟩
  refine Uh (K:=K) (σ:=[My (.ref a),U5,U5]) (C:=T.er.ad i) (a:=a) rfl ha [decide (i=0),decide (i=1),decide (i=2),decide (i=3)] (by simp) λ v1 H1 s1 i1=>?_;refine P_ (K:=K) (σ:=[My (.ref a),My v1,U5]) (C:=T.er.ad i) (a:=a) rfl (s1 _ _ ha) rfl i1 [decide (i=4),decide (i=5),decide (i=6),decide (i=7)] (by simp) λ v2 H2 s2 i2=>?_;refine P_ (K:=K) (σ:=[My (.ref a),My v2,U5]) (C:=T.er.ad i) (a:=a) rfl ((s1.trans s2) _ _ ha) rfl i2 [decide (i=8),decide (i=9),decide (i=10),decide (i=11)] (by simp) λ v3 H3 s3 i3=>?_;refine P_ (K:=K) (σ:=[My (.ref a),My v3,U5]) (C:=T.er.ad i) (a:=a) rfl (((s1.trans s2).trans s3) _ _ ha) rfl i3 [decide (i=12),decide (i=13),decide (i=14)] (by simp) λ v4 H4 s4 i4=>?_;have ss:=((s1.trans s2).trans s3).trans s4;obtain⟨b1,b2⟩:=Jr i hi;have i4:Is K H4 v4 (.lst (((U8 15).map λ k=>decide (i=k)).map .bl)):=i4;have bl:((U8 15).map λ k=>decide (i=k)).length=15:=by rw[ah,cJ]
  generalize (U8 15).map (λ k=>decide (i=k))=bs at *;have S:∀ H',g6 H4 H'->Sat K H' [My (.ref a),My v4,U5] [U5,My (.lst (bs.map .bl)),U5]:=λ H' s=>EB (PV (i4.ext s) (EB RH));have c1:Nn (.lst (bs.map .bl)) (.bl U6)=My (.int 1):=by show(yX (bs.map .bl)).bind (λ bs=>My (Dt.int (bs.countP id:Nat)))=_;rw[xC,ak,b1];rfl
  have c2:Np (.lst (bs.map .bl)) (.bl U6)=My (.int i):=by show(yX (bs.map .bl)).bind (λ bs=>if bs.length<=1000 then (bs.findIdx? id).map λ(j:Nat)=>Dt.int j else U5)=_;rw[xC,ak,ai (by lia),b2];rfl
  have c3:dIx (.lst (GK.map .str)) (.int i)=My (.str (CO c)):=by show atI (GK.map Dt.str) (i:Int)=_;refine lJ ?_;rw[aH,eW];rfl
  generalize Dt.lst (bs.map .bl)=bb at *;refine⟨_,U7,S H4 (g6.refl H4),by simp[c1],λ H5 s5=>?_⟩;refine KQ ?_;refine⟨⟨a,rfl,(ss.trans s5) _ _ ha⟩,U6,rfl,KQ ?_⟩;refine⟨_,.rt (.str (CO c)),S H5 s5,?_,λ H6 s6=>?_⟩
  ·have c4:rZ (.lst ((["web","place","tree","tie","text","number","shares","two","stream","paper","apart","many"]:List Str).map Dt.str)) (.lst [.str "code",.str "deed",.str "line"])=My (.lst (GK.map .str)):=rfl
   generalize hw:(["web","place","tree","tie","text","number","shares","two","stream","paper","apart","many"]:List Str).map Dt.str=ws,Dt.lst (GK.map .str)=ew at *;have wl:ws.length<=1000:=by rw[<-hw];decide
   simp[wl,c2,c3,c4]
  ·intro v iv;rw[iv.str_inv];exact q H6 ((ss.trans s5).trans s6)
end
section
variable {P:Program}{w:World}{K:gK}{mg:gG}{base:Heap}
theorem kC (T:Txt K mg):OkT P w base T.jW 7 (spD K 5 mi):=by
 refine T.jW.F.ok By (λ vs H Q E h=>?_) (λ cdv A outer s H vs Q E hr h=>?_)
 ·obtain⟨ds,d,hl,is,_⟩:=h;rw[is.length,hl];rfl
 ·obtain⟨ds,d,hl,is,e,q⟩:=h
  match ds,hl,is,e with
  | [dk,x,y,z,u],_,is,e =>
   obtain⟨k,e1,e⟩:=gU (show(tN dk).bind _=_ from e);by_cases hx:okW x=U6/\kdB y=U6/\kdB z=U6/\kdB u=U6
   rotate_left
   ·rw[au hx]at e;cases e
   rw[ai hx]at e;cases e;obtain⟨hx,hy,hz,hu⟩:=hx;rw[ly e1]at is;refine⟨_,ji (Pb (i:=5) (tb:=λ E'=>tXS K T.er.C E' Mq) T.er.w (λ E' pn=>pO (C:=T.er.C) (E:=E') (Pl (Rt (jZ (vU (ip hr)) (dv 0) hX) (mG (pCT T.wL (Af T) hr (gQ (dv 1) (gQ (dv 2) (gQ (dv 4) gX))))) (mG (pCT T.BB (De T) hr (gQ (dv 1) (gQ (dv 2) (gQ (dv 3) (gQ (dv 4) gX)))))))))
    (λ a pn=>ji (lW (pCN T.oB (MC T) (hr.toN (by decide) _) (gW (pv 5) hZ))))),?_⟩
   refine⟨λ cl a H'=>∃ c,k_ k x y z u=.error c/\cl=.ref (T.er.C c)/\g6 H H',?_,?_⟩
   ·refine⟨_,_,is.start (N:=["_law_door","_law_web_here","_law_a","_law_b","_law_steps","_law_e"]),Mr k hx hy hz hu U5,λ H1 s1=>?_⟩
    cases er:k_ k x y z u with
    | ok d=>rw[er]at q;exact λ v iv=>q v H1 s1 iv
    | error c=>exact λ e he=>⟨c,rfl,rfl,s1⟩
   ·rintro cls a H' ⟨c,er,rfl,s'⟩ ha
    have mc:=Ms er;obtain⟨i,hi,ei⟩:=Jp mc;obtain⟨eC,_⟩:=Jq T.er i hi ei;rw[er]at q;refine⟨⟨_,rfl,by rw[eC];exact(T.er.ci i hi).sub⟩,λ σ1 hl1=>?_⟩;refine⟨.ref a,?_,a,c,rfl,mc,gZ,λ H2 s2=>q _ _ ((s'.trans (g6.upd ha)).trans s2) (.str _)⟩;have:5<σ1.length:=by rw[hl1];exact eE 5
    exact cv this
end
end K11
namespace L2
open PySem PySem.Spec PyProof.Rows Zp Qs
section
variable {es fs:List Expr}{env:Env}{e a b:Expr}{k:Nat}{p:Pos}
theorem stC {c:Const}:starEach (.Constant c k p::es) env=(U7,eval (.Constant c k p) env)::starEach es env:=rfl
theorem stT {j}:starEach (.Tuple fs j p::es) env=(U7,eval (.Tuple fs j p) env)::starEach es env:=rfl
theorem stL:starEach (.List fs p::es) env=(U7,eval (.List fs p) env)::starEach es env:=rfl
theorem stB {o}:starEach (.BinOp a o b p::es) env=(U7,eval (.BinOp a o b p) env)::starEach es env:=rfl
theorem stU {o}:starEach (.UnaryOp o a p::es) env=(U7,eval (.UnaryOp o a p) env)::starEach es env:=rfl
theorem stX:starEach (.Subscript a b p::es) env=(U7,eval (.Subscript a b p) env)::starEach es env:=rfl
end
section
variable {K:gK}{H:Hp}
theorem Sat.inv {σ:L2.St}{d:Dt}{δ:DE}(S:Sat K H σ (My d::δ)):∃ v σ',σ=My v::σ'/\Is K H v d/\Sat K H σ' δ:=by
 obtain⟨v,e,i⟩:=S.at_ 0 d rfl;cases σ with
 | nil=>cases e
 | cons x r=>cases e;exact⟨v,r,rfl,i,Nat.succ.inj S.len,λ j d hj=>S.at_ (j+1) d hj⟩
theorem Sat.zq {σ:L2.St}{δ:DE}(S:Sat K H σ (U5::δ)):∃ x σ',σ=x::σ'/\Sat K H σ' δ:=by
 cases σ with
 | nil=>cases S.len
 | cons x r=>exact⟨x,r,rfl,Nat.succ.inj S.len,λ j d hj=>S.at_ (j+1) d hj⟩
theorem Sat.Ui {σ:L2.St}(S:Sat K H σ [U5,U5,U5,U5]):∃ x0 x1 x2 x3,σ=[x0,x1,x2,x3]:=by
 obtain⟨x0,r0,rfl,S0⟩:=S.zq;obtain⟨x1,r1,rfl,S1⟩:=S0.zq;obtain⟨x2,r2,rfl,S2⟩:=S1.zq;obtain⟨x3,r3,rfl,S3⟩:=S2.zq;have:=S3.len;cases r3 with
 | nil=>exact⟨_,_,_,_,rfl⟩
 | cons _ _=>cases this
end
end L2
namespace K02
open PySem PySem.Spec PyProof.Rows L2 Zp
section
variable {P:Program}{w:World}{K:gK}{mg:gG}{base:Heap}
end
end K02
namespace K11
open PySem PySem.Spec PyProof.Rows L2 Zp
section
variable {P:Program}{w:World}{K:gK}{mg:gG}{base:Heap}
theorem imW (ww:Web):Imm (h_ ww):=.tup (.cons (.int _) (.cons (.tup (qJ.of λ d hd=>by obtain⟨t,_,rfl⟩:=aE.mp hd;exact .tup (.cons (.int _) (.cons (.int _) .nil)))) .nil))
def afB (K:gK):TS:=jx (tDS K la0) (jx (tDS K la1) (BN (tBM K "list" tj (iG 3) (g0 (tD K (g_ dIx (gT 5) (gT 1))) i8))))
def afR (K:gK):List V->Hp->VK->Prop:=λ xs H Q=>∃ p ys,xs=[V.ref p]/\((SqL K H p ys/\∀ (l:Addr),H l=U5->Q (V.ref l) (upd H l (HO.tup ys)))\/SqT K H p ys/\Q (V.ref p) H)
def afA (K:gK):TS:=jx (lU (rV i8) (iW 3)) (jx (Dp (BR (g0 (tOp (KG K) (iG 0) (tC (V.int 0))) i8)) (iW 4) (afB K)) (BO (tCB (afR K) (g0 (iG 3) i8))))
def afI (K:gK)(ww:Web)(p n:Nat)(q:Addr)(H0:Hp):Nat->L2.St->Hp->Prop:=λ i σ' H'=>∃ (vw:V) (x4 x5 x6 x7:gJ V) (vs:List V),σ'=[My vw,My (iV p),My (iV n),My (.ref q),x4,x5,x6,x7]/\Is K H' vw (h_ ww)/\g6 H0 H'/\H' q=My (.lst vs)/\Iss K H' vs ((U8 i).map λ e=>hV (fr (ch ww n p e) (420 ^ n)))
theorem Qa {D:Ends}{ww:Web}(g:Good ww){p n:Nat}(hp:p<ww.1)(hn:n<=30){q:Addr}{H0:Hp}(q0:H0 q=U5){i:Nat}(hi:i<ww.1){vw:V}{x5 x6 x7:gJ V}{vs:List V}{H':Hp}(iw:Is K H' vw (h_ ww))(sm:g6 H0 H')(hq:H' q=My (.lst vs))(is:Iss K H' vs ((U8 i).map λ e=>hV (fr (ch ww n p e) (420 ^ n))))
  (h:∀ σ H,afI K ww p n q H0 (i+1) σ H->D.nx σ H):afB K D [My vw,My (iV p),My (iV n),My (.ref q),My (iV i),x5,x6,x7] H':=by
 have e0:=g.JS hi (My (gR p)) (My (gR n)) (My (.opq (.ref q))) U5 U5 U5;refine⟨_,_,stS iw (stS (.int _) (stS (.int _) (stS (.opq _) (stS (.int _) (L2.stN (L2.stN (L2.stN L2.stE))))))),e0,λ H1 s1 σ1 S1=>?_⟩;obtain⟨y6,y7,e1⟩:=g.PU hi hn (My (gR p)) (My (.opq (.ref q))) U5 U5;refine⟨_,_,S1,e1,λ H2 s2 σ2 S2=>?_⟩;clear S1 e0 e1;have s:=s1.trans s2;obtain⟨y0,r0,rfl,j0,R0⟩:=S2.inv;obtain⟨y1,r1,rfl,j1,R1⟩:=R0.inv;obtain⟨y2,r2,rfl,j2,R2⟩:=R1.inv;obtain⟨y3,r3,rfl,j3,R3⟩:=R2.inv;obtain⟨y4,r4,rfl,j4,R4⟩:=R3.inv;obtain⟨y5,r5,rfl,j5,R5⟩:=R4.inv;have l5:=R5.len;have:=j1.int_inv;subst this;have:=j2.int_inv;subst this;have:=j3.m_;subst this;obtain⟨z6,z7,rfl⟩:∃ z6 z7,r5=[z6,z7]:=by
  match r5,l5 with
  | [a,b],_=>exact⟨a,b,rfl⟩
 have hq2:=s _ _ hq;have vl:vs.length=i:=by rw[is.length,ah,cJ]
 have gx:=FL (l:=BQ ww n i) (j:=p) (by rw[JQ];exact hp);rw[Ny n i hp]at gx;have ge:g_ dIx (gT 5) (gT 1) [My (h_ ww),My (gR p),My (gR n),My (.opq (.ref q)),My (gR i),My (.lst ((BQ ww n i).map hV)),U5,U5]=My (hV (fr (ch ww n p i) (420 ^ n))):=gx;refine⟨_,rfl,.inl ⟨rfl,_,SqL.of hq2⟩,[My (h_ ww),My (gR p),My (gR n),My (.opq (.ref q)),My (gR i),My (.lst ((BQ ww n i).map hV)),U5,U5],_,stS j0 (stS (.int _) (stS (.int _) (stS (.opq _) (stS j4 (stS j5 (L2.stN (L2.stN L2.stE))))))),ge,λ v H3 s3 iv=>?_⟩;have h8:=g.mv;refine⟨q,vs,v,rfl,rfl,s3 _ _ hq2,by rw[sizeLine_eq];lia,?_⟩;have t4:kA H3 (upd H3 q (.lst (vs++[v]))):=kA.upd (by rw[s3 _ _ hq2];trivial);have imQ:∀ r:Rat,Imm (hV r):=λ r=>.tup (.cons (.int _) (.cons (.int _) .nil));refine h _ _ ⟨y0,_,_,_,_,vs++[v],rfl,(j0.ext s3).text t4 (imW ww),jw ((sm.trans s).trans s3) q0,gZ,?_⟩;rw[gu,bu];exact((is.ext (s.trans s3)).text t4 (qJ.of λ d hd=>by obtain⟨e,_,rfl⟩:=aE.mp hd;exact imQ _)).append (.cons (iv.text t4 (imQ _)) .nil)
theorem zr (T:Txt K mg):OkT P w base T.qe 4 (spD K 3 pX):=by
 refine T.qe.F.ok lE (λ vs H Q E h=>?_) (λ cdv A outer s H vs Q E hr h=>?_)
 ·obtain⟨ds,d,hl,is,_⟩:=h;rw[is.length,hl];rfl
 ·obtain⟨ds,d,hl,is,e,q⟩:=h
  match ds,hl,is,e with
  | [x,y,z],_,is,e =>
   obtain⟨ww,e1,e⟩:=gU (show(dW x).bind _=_ from e);obtain⟨p,e2,e⟩:=gU e;obtain⟨n,e3,e⟩:=gU e;by_cases hc:p<ww.1/\n<=30
   rotate_left
   ·rw[au hc]at e;cases e
   rw[ai hc]at e;cases e;obtain⟨rfl,g⟩:=oF e1;rw[ju e2,ju e3]at is;obtain⟨v0,v1,v2,rfl,i0,i1,i2⟩:∃ v0 v1 v2,vs=[v0,v1,v2]/\Is K H v0 (h_ ww)/\Is K H v1 (gR p)/\Is K H v2 (gR n):=by
    cases is with
    | cons a b=>cases b with
     | cons c d=>cases d with
      | cons e f=>cases f;exact⟨_,_,_,rfl,a,c,e⟩
   have:=i1.int_inv;subst this;have:=i2.int_inv;subst this;refine⟨afA K,g9 (iY (i:=3) lE.nd rfl (Or.inl rfl) (kG hZ))
    (g9 (qA bj rfl (nD rfl T.jh (gW (mq xb (pv 0) ic (λ _ _=>rfl)) hZ)) (pgo 4)
     (g9 (jn (i:=5) lE.nd (oV rfl (csc ["_law_other"] ["_law_end"] [4]) (jK T.jh (gQ (jC (dv 0) hX) gX)) (λ _ _ _ _=>(pgo 0)) iO i9 (λ _ _ _ _=>j_) (λ _ _ _ _=>(jg (gQ (kN Bp T.Ae boot_int (gQ (sf (vU (ip hr)) (dv 0) (dv 1)) gX)) (gQ hX gX)))))) (g9 (pD bj rfl (jK T.jh (gQ (dv 2) gX)) (pgo 6) i9 (iq (Cf (i:=7) lE.nd rfl (csc ["_law_other"] ["_law_web_here"] [0]) (jK T.jh (gQ (jC (dv 0) hX) gX)) (λ _ _ _ _=>(pgo 0)) iO i9 (λ _ _ _ _=>j_) (λ _ _ _ _=>(dC T.oC (uC T) hr (gQ (dv 1) (gQ (dv 0) gX))))) (ik (jn (i:=5) lE.nd (oV rfl (csc ["_law_some"] ["_law_here"] [5]) (l_ (dv 7)) (λ _ _ _ _=>(pgo 0)) iO i9 (λ _ _ _ _=>j_) (λ _ _ _ _=>(dC T.qa (zo T) hr (gQ (dC T.qb (zp T) hr (gQ (oV rfl (csc ["_law_other"] ["_law_here"] [1]) (l_ (dv 0)) (λ _ _ _ _=>(pgo 0)) iO i9 (λ _ _ _ _=>j_) (λ _ _ _ _=>(jC (dv 1) (dv 0)))) gX)) (gQ (jg (gQ hX (gQ (iL zK T.rm cB (gQ (dv 0) gX)) gX))) gX))))))))) (ji (sZ (xc cT dR dS rz (pv 3) (gW (jC (dv 5) (dv 1)) hZ)))))))
    (ji (lW (kW oD rfl T.lK boot_tuple (gW (pv 3) hZ))))),?_⟩
   have h8:=g.mv;refine⟨by show 0<=sizeLine;decide,λ t ht=>?_⟩;have iw1:=i0.ext (g6.upd (o:=.lst []) ht);have s1:g6 H (upd H t (.lst [])):=g6.upd ht;have t1:upd H t (.lst []) t=My (.lst []):=gZ;obtain⟨r,xs,hv,hr3,is3⟩:=iw1.iI;obtain⟨w0,w1,hxs,j0,j1⟩:=is3.two;have hv0:=j0.int_inv;show jx _ _ _ _ (upd H t (.lst []));generalize upd H t (.lst [])=H1 at *;refine⟨_,rfl,r,_,_,w0,hv,rfl,hr3,by rw[hxs];rfl,ww.1,by rw[hv0],by lia,by lia,?_⟩;refine oN (lo:=0) (n:=((ww.1:Nat):Int).toNat) (afI K ww p n t H) ⟨v0,_,_,_,_,[],rfl,iw1,s1,t1,.nil⟩ ?_ ?_
   ·rintro i σ' H' hi ⟨vw,x4,x5,x6,x7,vs,rfl,iw,sm,hq,is⟩;rw[Int.zero_add];exact Qa g hc.1 hc.2 ht (by lia) iw sm hq is λ σ H h=>h
   ·rintro σ' H' ⟨vw,x4,x5,x6,x7,vs,rfl,iw,sm,hq,is⟩;refine⟨_,rfl,t,vs,rfl,.inl ⟨SqL.of hq,λ l hl=>q _ _ (sm.trans (g6.upd hl)) ?_⟩⟩;rw[cg]at is;refine .tup (SqT.of gZ) ?_;have:=is.ext (g6.upd (o:=.tup vs) hl);unfold PQ;rw[aU];exact this
end
theorem Dh (n:Int){m:Nat}(h:0<m):∃ d:Nat,n % (m:Int)=d/\d<m:=⟨(n % (m:Int)).toNat,by have:=bW n (show(m:Int)≠0 by lia);lia,by have:=cC n (show(0:Int)<m by lia);have:=bW n (show(m:Int)≠0 by lia);lia⟩
section
variable {P:Program}{w:World}{K:gK}{mg:gG}{base:Heap}
def RS (K:gK):Sp:=λ vs H Q _=>∃ (p:Addr) (n:Int) (v:V) (ww:Web),vs=[.ref p,v]/\Good ww/\Is K H v (h_ ww)/\H p=My (.lst [.int n]) /\
 ∀ (u:V) (d:Dt) (n':Int) (H':Hp),nU ww.1 d=U7->kdB d=U6->Is K (hdP H' p) u d->H' p=My (.lst [.int n'])->But p H H'->Q u H'
def tNo (K:gK):TS:=BO (tOp (oP K) (rV (g0 (tOp (KG K) (iG 1) (tC (V.int 0))) (g0 (tUn (rU λ i=>V.int (-i)) (tC (V.int 1))) (g0 (tC (V.bl U6)) (g0 (tC (V.bl U7)) (g0 (tC V.non) (g0 (tC (V.str "0")) (g0 (Aq (g0 (tC (V.int 0)) i8)) (g0 (rV (g0 (tC (V.int 1)) i8)) (g0 (tC (V.int 8)) (g0 (tOp (rI Kv λ i j=>V.int (i ^ j.toNat)) (tC (V.int 10)) (tC (V.int 29))) i8))))))))))) (jD kz [] E0 (g0 (iG 0) (g0 (tC (V.int 10)) i8))))
theorem RT (T:Txt K mg)(cdv:gL)(A:Around)(outer:List Env)(s:gM)(H:Hp)(E:XK)(hr:jI 1 (A.deeper (envOfC "_law_no_place" (gY kE) s.heap.objs.size T.kF.f cdv))):PSs (qt CX0 P w K mg base ["_law_pot_here","_law_web_here"] "_law_no_place" (gY kE) T.kF.f cdv A outer s H E).nox (iU kE) (tNo K) :=
 ji (lW (mq kK (kG (gW (mq xb (pv 1) ic (λ _ _=>rfl)) (gW (EK Am ic) (gW wQ (gW wQ (gW Dk (gW Aj (gW (qC (gW ic hZ stC)) (gW (kG (gW ic hZ stC)) (gW ic (gW (jM wX ic ic) hZ stB) stC) stL) stT) stC) stC) stC) stC) stU) stX)) (pC T.iJ (jL T) hr (gW (pv 0) (gW ic hZ))) (λ _ _=>rfl)))
end
section
variable {P:Program}{w:World}{K:gK}{mg:gG}{base:Heap}
theorem Di (T:Txt K mg):OkT P w base T.kF 2 (RS K):=by
 refine T.kF.F.ok vc (λ vs H Q E h=>?_) (λ cdv A outer s H vs Q E hr h=>?_)
 ·obtain⟨p,n,v,ww,rfl,_⟩:=h;rfl
 ·obtain⟨p,n,v,ww,rfl,hg,iw,hp,q⟩:=h
  refine⟨tNo K,RT T cdv A outer s H E hr,?_⟩;have w2:=hg.two;have w8:=hg.mv;obtain⟨r,xs,rfl,hr3,is3⟩:=iw.iI;obtain⟨v0,v1,rfl,j0,j1⟩:=is3.two;have hv0:=j0.int_inv;subst hv0;refine⟨_,rfl,r,_,_,.int ww.1,rfl,rfl,hr3,rfl,1,rfl,by show 1<=sizeLine;decide,λ q1 h1=>⟨by show 1<=sizeLine;decide,λ q2 h2=>?_⟩⟩;refine⟨10,29,rfl,rfl,⟨by decide,by decide,by decide⟩,by show 10<=sizeLine;decide,λ q3 h3=>?_⟩;have np1:q1≠p:=λ z=>by subst z;rw[hp]at h1;cases h1
  have hp1:upd H q1 (.tup [.int 0]) p=My (.lst [.int n]):=by rw[hU (aZ np1)];exact hp
  have b1:But p H (upd H q1 (.tup [.int 0])):=(But.refl p H).new h1;have t1:upd H q1 (.tup [.int 0]) q1=My (.tup [.int 0]):=gZ;generalize upd H q1 (.tup [.int 0])=H1 at *;have np2:q2≠p:=λ z=>by subst z;rw[hp1]at h2;cases h2
  have s12:g6 H1 (upd H1 q2 (.lst [.int 1])):=g6.upd h2;have b2:But p H (upd H1 q2 (.lst [.int 1])):=b1.new (b1.none h2 np2);have hp2:=s12 _ _ hp1;have t2:=s12 _ _ t1;have l2:upd H1 q2 (.lst [.int 1]) q2=My (.lst [.int 1]):=gZ;generalize upd H1 q2 (.lst [.int 1])=H2 at *;have np3:q3≠p:=λ z=>by subst z;rw[hp2]at h3;cases h3
  generalize hvs:[V.int ww.1,.int (-1),.bl U6,.bl U7,.non,.str "0",.ref q1,.ref q2,.int 8,.int (10 ^ Int.toNat 29)]=vs;have s23:g6 H2 (upd H2 q3 (.lst vs)):=g6.upd h3;have b3:But p H (upd H2 q3 (.lst vs)):=b2.new (b2.none h3 np3);have hp3:=s23 _ _ hp2;have t3:=s23 _ _ t2;have l3:=s23 _ _ l2;have m3:upd H2 q3 (.lst vs) q3=My (.lst vs):=gZ;show jD kz [] E0 (g0 (iG 0) (g0 (tC (V.int 10)) i8)) _ (upd H2 q3 (.lst vs)) _;generalize upd H2 q3 (.lst vs)=H3 at *;refine⟨_,rfl,p,n,10,rfl,hp3,by decide,by decide,?_⟩;obtain⟨j,hj,jl⟩:=Dh n (show 0<10 by decide);have hj:n % 10=(j:Int):=hj;rw[hj];have hp4:upd H3 p (.lst [.int (n / 10)]) p=My (.lst [.int (n / 10)]):=gZ;have b4:But p H (upd H3 p (.lst [.int (n / 10)])):=b3.sW;have t4:hdP (upd H3 p (.lst [.int (n / 10)])) p q1=My (.tup [.int 0]):=by rw[mY np1,hU np1];exact t3
  have l4:hdP (upd H3 p (.lst [.int (n / 10)])) p q2=My (.lst [.int 1]):=by rw[mY np2,hU np2];exact l3
  have m4:upd H3 p (.lst [.int (n / 10)]) q3=My (.lst vs):=by rw[hU np3];exact m3
  generalize upd H3 p (.lst [.int (n / 10)])=H4 at *;have fin:∀ (u:V) (d:Dt),vs[j]?=My u->nU ww.1 d=U7->kdB d=U6->Is K (hdP H4 p) u d->oP K (.ref q3) (.int j) H4 Q:=λ u d e1 e2 e3 e4 =>⟨q3,vs,j,u,rfl,rfl,SqL.of m4,lJ e1,q u d _ H4 e2 e3 e4 hp4 b4⟩
  have pl:∀ i:Int,¬ (0<=i/\i<(ww.1:Int))->nU ww.1 (.int i)=U7:=λ i h=>decide_eq_false h;have big:(10:Int) ^ Int.toNat 29=100000000000000000000000000000:=by decide +kernel
  show oP K (.ref q3) (.int j) H4 Q;have cs:j=0\/j=1\/j=2\/j=3\/j=4\/j=5\/j=6\/j=7\/j=8\/j=9:=by lia
  rcases cs with rfl | rfl | rfl | rfl | rfl | rfl | rfl | rfl | rfl | rfl
  ·exact fin _ (.int ww.1) (by rw[<-hvs];rfl) (pl _ (by lia)) rfl (.int _)
  ·exact fin _ (.int (-1)) (by rw[<-hvs];rfl) (pl _ (by lia)) rfl (.int _)
  ·exact fin _ (.bl U6) (by rw[<-hvs];rfl) rfl rfl (.bl _)
  ·exact fin _ (.bl U7) (by rw[<-hvs];rfl) rfl rfl (.bl _)
  ·exact fin _ .non (by rw[<-hvs];rfl) rfl rfl .non
  ·exact fin _ (.str "0") (by rw[<-hvs];rfl) rfl rfl (.str _)
  ·exact fin _ (.tup [.int 0]) (by rw[<-hvs];rfl) rfl rfl (.tup (SqT.of t4) (.cons (.int _) .nil))
  ·exact fin _ (.lst [.int 1]) (by rw[<-hvs];rfl) rfl rfl (.lst l4 (.cons (.int _) .nil))
  ·exact fin _ (.int 8) (by rw[<-hvs];rfl) (pl _ (by lia)) rfl (.int _)
  ·exact fin _ (.int 100000000000000000000000000000) (by rw[<-hvs,big];rfl) (pl _ (by lia)) rfl (.int _)
end
theorem stV {x:Str}{p:Pos}{es:List Expr}{env:Env}:starEach (.Name x p::es) env=(U7,eval (.Name x p) env)::starEach es env:=rfl
section
variable {P:Program}{w:World}{K:gK}{mg:gG}{base:Heap}
def RU (K:gK):TE:=tOp (oP K) (rV (g0 (tC (V.int 8)) (g0 (iG 2) (g0 (tUn (rU λ i=>V.int (-i)) (tC (V.int 1))) (g0 (tC (V.bl U6)) (g0 (tC (V.bl U7)) (g0 (tC V.non) (g0 (tC (V.str "1")) (g0 (Aq (g0 (tC (V.int 1)) i8)) (g0 (tOp (rI Kv λ i j=>V.int (i ^ j.toNat)) (tC (V.int 10)) (tC (V.int 29))) (g0 (tC (V.int 0)) i8))))))))))) (jD kz [] E0 (g0 (iG 0) (g0 (tC (V.int 10)) i8)))
def Qb (K:gK):TS:=lU (RU K) (iW 6)
theorem Qc (T:Txt K mg)(cdv:gL)(A:Around)(outer:List Env)(s:gM)(H:Hp)(E:XK)(hr:jI 1 (A.deeper (envOfC "_law_bent" (gY ir) s.heap.objs.size T.ja.f cdv))):∀ st,(iU ir)[3]?=My st->PS (qt CX0 P w K mg base ["_law_pot_here","_law_web_here","_law_many","_law_ties","_law_at","_law_which","_law_odd","_law_one","_law_other","_law_tie","_law_bent_here","_law_some"] "_law_bent" (gY ir) T.ja.f cdv A outer s H E).nox st (Qb K):=by intro st h;obtain rfl:=ao h;exact(iY (i:=6) iR.nd rfl (Or.inl rfl) (mq kK (kG (gW ic (gW (pv 2) (gW (EK Am ic) (gW wQ (gW wQ (gW Dk (gW Aj (gW (qC (gW ic hZ stC)) (gW (jM wX ic ic) (gW ic hZ stC) stB) stT) stC) stC) stC) stC) stU) stV) stC)) (pC T.iJ (jL T) hr (gW (pv 0) (gW ic hZ))) (λ _ _=>rfl)))
end
section
variable {P:Program}{w:World}{K:gK}{mg:gG}{base:Heap}
abbrev XB (P:Program)(w:World)(K:gK)(mg:gG)(base:Heap)(T:Txt K mg)(cdv:gL)(A:Around)(outer:List Env)(s:gM)(H:Hp)(E:XK):Cx:=(qt CX0 P w K mg base ["_law_pot_here","_law_web_here","_law_many","_law_ties","_law_at","_law_which","_law_odd","_law_one","_law_other","_law_tie","_law_bent_here","_law_some"] "_law_bent" (gY ir) T.ja.f cdv A outer s H E).nox
theorem RV (T:Txt K mg)(cdv:gL)(A:Around)(outer:List Env)(s:gM)(H:Hp)(E:XK)(hr:jI 1 (A.deeper (envOfC "_law_bent" (gY ir) s.heap.objs.size T.ja.f cdv))):∀ st,(iU ir)[6]?=My st->PS (XB P w K mg base T cdv A outer s H E) st (tDS K bt6):=by intro st h;obtain rfl:=ao h;exact(jn (i:=9) iR.nd (jC (dv 3) (dv 4)))
theorem RW (T:Txt K mg)(cdv:gL)(A:Around)(outer:List Env)(s:gM)(H:Hp)(E:XK)(hr:jI 1 (A.deeper (envOfC "_law_bent" (gY ir) s.heap.objs.size T.ja.f cdv))):∀ st,(iU ir)[7]?=My st->PS (XB P w K mg base T cdv A outer s H E) st (tDS K bt7):=by intro st h;obtain rfl:=ao h;exact(jn (i:=10) iR.nd (jg (gQ (jt lu (jt lu (nA (dv 9) (dv 5)) (jg (gQ (dv 6) gX))) (ou (dv 9) (jt qO (dv 5) hX))) gX)))
theorem RY (T:Txt K mg)(cdv:gL)(A:Around)(outer:List Env)(s:gM)(H:Hp)(E:XK)(hr:jI 1 (A.deeper (envOfC "_law_bent" (gY ir) s.heap.objs.size T.ja.f cdv))):∀ st,(iU ir)[8]?=My st->PS (XB P w K mg base T cdv A outer s H E) st (tDS K bt8):=by intro st h;obtain rfl:=ao h;exact(jn (i:=11) iR.nd (lZ (gQ (jg (gQ (dv 2) (gQ (jt lu (jt lu (nA (dv 3) (dv 4)) (dv 10)) (ou (dv 3) (jt qO (dv 4) hX))) gX))) (gQ (jg (gQ (dv 2) (gQ (jt lu (nA (dv 3) (dv 4)) (ou (dv 3) (jt qO (dv 4) hX))) gX))) gX))))
theorem RZ (T:Txt K mg)(cdv:gL)(A:Around)(outer:List Env)(s:gM)(H:Hp)(E:XK)(hr:jI 1 (A.deeper (envOfC "_law_bent" (gY ir) s.heap.objs.size T.ja.f cdv))):∀ st,(iU ir)[9]?=My st->PS (XB P w K mg base T cdv A outer s H E) st (tDS K bt9):=by intro st h;obtain rfl:=ao h;exact(jn (i:=11) iR.nd (jt ql (dv 11) (lZ (gQ (jg (gQ (dv 2) (gQ (kN xG T.yF boot_list (gQ (dv 3) gX)) gX))) (gQ (lZ (gQ (dv 2) (gQ (dv 3) gX))) gX)))))
theorem Qd (T:Txt K mg)(cdv:gL)(A:Around)(outer:List Env)(s:gM)(H:Hp)(E:XK)(hr:jI 1 (A.deeper (envOfC "_law_bent" (gY ir) s.heap.objs.size T.ja.f cdv))):∀ st,(iU ir)[10]?=My st->PS (XB P w K mg base T cdv A outer s H E) st (tDS K Mb):=by intro st h;obtain rfl:=ao h;exact(jn (i:=11) iR.nd (jt ql (dv 11) (lZ (gQ (jg (gQ (dv 2) (gQ (jt lu (jt lu (nA (dv 3) (dv 4)) (jg (gQ (kN xG T.yF boot_list (gQ (dv 9) gX)) gX))) (ou (dv 3) (jt qO (dv 4) hX))) gX))) (gQ (jg (gQ (dv 2) (gQ (jt lu (jt lu (nA (dv 3) (dv 4)) (jg (gQ (Nq (dv 9)) gX))) (ou (dv 3) (jt qO (dv 4) hX))) gX))) gX)))))
theorem Qf (T:Txt K mg)(cdv:gL)(A:Around)(outer:List Env)(s:gM)(H:Hp)(E:XK)(hr:jI 1 (A.deeper (envOfC "_law_bent" (gY ir) s.heap.objs.size T.ja.f cdv))):∀ st,(iU ir)[11]?=My st->PS (XB P w K mg base T cdv A outer s H E) st (tDS K Mc):=by intro st h;obtain rfl:=ao h;exact(jn (i:=11) iR.nd (jt ql (dv 11) (lZ (gQ (jg (gQ (dv 2) (gQ (jt lu (nA (dv 3) (jt qO (dv 4) hX)) (ou (dv 3) (dv 4))) gX))) (gQ (jg (gQ (dv 2) (gQ (Nq (dv 3)) gX))) (gQ (jg (gQ (jt qO (dv 2) hX) (gQ (dv 3) gX))) gX))))))
theorem Qg (T:Txt K mg)(cdv:gL)(A:Around)(outer:List Env)(s:gM)(H:Hp)(E:XK)(hr:jI 1 (A.deeper (envOfC "_law_bent" (gY ir) s.heap.objs.size T.ja.f cdv))):∀ st,(iU ir)[12]?=My st->PS (XB P w K mg base T cdv A outer s H E) st (tDS K Md):=by intro st h;obtain rfl:=ao h;exact(jn (i:=11) iR.nd (jt ql (dv 11) (lZ (gQ (jg (gQ (jt M_ (dv 2) hX) (gQ (dv 3) gX))) (gQ (jg (gQ (dv 6) (gQ (dv 3) gX))) gX)))))
theorem Qh (T:Txt K mg)(cdv:gL)(A:Around)(outer:List Env)(s:gM)(H:Hp)(E:XK)(hr:jI 1 (A.deeper (envOfC "_law_bent" (gY ir) s.heap.objs.size T.ja.f cdv))):∀ st,(iU ir)[13]?=My st->PS (XB P w K mg base T cdv A outer s H E) st (tDS K Me):=by intro st h;obtain rfl:=ao h;exact(jn (i:=11) iR.nd (jt ql (dv 11) (lZ (gQ (jg (gQ (dv 2) (gQ (kN we T.lK boot_tuple (gQ (iL (Gr rfl) T.rn boot_sorted (gQ (jt lu (dv 3) (jg (gQ (jg (gQ (dv 7) (gQ (dv 8) gX))) gX))) gX)) gX)) gX))) (gQ (jg (gQ (dv 2) (gQ (dv 3) (gQ (jg gX) gX)))) (gQ (jg (gQ (dv 2) gX)) (gQ (dv 3) (gQ (dv 2) (gQ (dv 6) (gQ (jg gX) gX))))))))))
theorem Qi (T:Txt K mg)(cdv:gL)(A:Around)(outer:List Env)(s:gM)(H:Hp)(E:XK)(hr:jI 1 (A.deeper (envOfC "_law_bent" (gY ir) s.heap.objs.size T.ja.f cdv))):∀ st,(iU ir)[14]?=My st->PS (XB P w K mg base T cdv A outer s H E) st (tDS K Mf):=by intro st h;obtain rfl:=ao h;exact(jn (i:=11) iR.nd (jt ql (dv 11) (lZ (gQ (jg (gQ (dv 2) (gQ (jt lu (jt lu (nA (dv 3) (dv 4)) (jg (gQ (jt lu (dv 9) (jg (gQ hX gX))) gX))) (ou (dv 3) (jt qO (dv 4) hX))) gX))) (gQ (jg (gQ (dv 2) (gQ (jt lu (jt lu (nA (dv 3) (dv 4)) (jg (gQ (nA (dv 9) hX) gX))) (ou (dv 3) (jt qO (dv 4) hX))) gX))) gX)))))
end
section
variable {P:Program}{w:World}{K:gK}{mg:gG}{base:Heap}
theorem qi {H:Hp}{p:Addr}{o:HO}:hdP (upd H p o) p=hdP H p:=funext λ b=>by
 unfold hdP;by_cases c:b=p
 ·rw[ai c,ai c]
 ·rw[au c,au c,hU c]
def Odd (od:Dt):Prop:=kdB od=U6/\kT od=U6/\fit od=U6/\∀ (t:Nat×Nat) (wh:Nat),wh<2->kT (vZ t wh od)=U6
theorem uD (i:Int):Odd (.int i):=⟨rfl,rfl,by simp[fit,okW,shW,jO];rfl,λ t wh h=>by rcases (by lia:wh=0\/wh=1) with rfl | rfl<;>rfl⟩
theorem Ke (i:Bool):Odd (.bl i):=⟨rfl,rfl,by simp[fit,okW,shW,jO];rfl,λ t wh h=>by rcases (by lia:wh=0\/wh=1) with rfl | rfl<;>rfl⟩
theorem MD:Odd .non:=⟨rfl,rfl,by simp[fit,okW,shW,jO];rfl,λ t wh h=>by rcases (by lia:wh=0\/wh=1) with rfl | rfl<;>rfl⟩
theorem ME:Odd (.str "1"):=⟨rfl,rfl,by simp[fit,okW,shW,jO];rfl,λ t wh h=>by rcases (by lia:wh=0\/wh=1) with rfl | rfl<;>rfl⟩
theorem MF:Odd (.tup [.int 1]):=⟨rfl,rfl,by simp[fit,okW,shW,jO,i_];rfl,λ t wh h=>by rcases (by lia:wh=0\/wh=1) with rfl | rfl<;>rfl⟩
theorem Qj {D:Ends}{σ:L2.St}{H:Hp}{p:Addr}{n nn:Int}(h0:σ[0]?=My (My (.ref p)))(h2:σ[2]?=My (My (.int nn)))(hp:H p=My (.lst [.int n]))
  (h:∀ (u:V) (od:Dt) (n':Int) (H':Hp),Odd od->Is K (hdP H' p) u od->H' p=My (.lst [.int n'])->But p H H'->D.nx (σ.set 6 (My u)) H'):Qb K D σ H:=by
 refine⟨_,h2,1,rfl,by show 1<=sizeLine;decide,λ q1 h1=>?_⟩;refine⟨10,29,rfl,rfl,⟨by decide,by decide,by decide⟩,by show 10<=sizeLine;decide,λ q3 h3=>?_⟩;have np1:q1≠p:=λ z=>by subst z;rw[hp]at h1;cases h1
 have hp1:upd H q1 (.tup [.int 1]) p=My (.lst [.int n]):=by rw[hU (aZ np1)];exact hp
 have b1:But p H (upd H q1 (.tup [.int 1])):=(But.refl p H).new h1;have t1:upd H q1 (.tup [.int 1]) q1=My (.tup [.int 1]):=gZ;generalize upd H q1 (.tup [.int 1])=H1 at *;have np3:q3≠p:=λ z=>by subst z;rw[hp1]at h3;cases h3
 generalize hvs:[V.int 8,.int nn,.int (-1),.bl U6,.bl U7,.non,.str "1",.ref q1,.int (10 ^ Int.toNat 29),.int 0]=vs;have s23:g6 H1 (upd H1 q3 (.lst vs)):=g6.upd h3;have b3:But p H (upd H1 q3 (.lst vs)):=b1.new (b1.none h3 np3);have hp3:=s23 _ _ hp1;have t3:=s23 _ _ t1;have m3:upd H1 q3 (.lst vs) q3=My (.lst vs):=gZ;show jD kz [] E0 (g0 (iG 0) (g0 (tC (V.int 10)) i8)) _ (upd H1 q3 (.lst vs)) _;generalize upd H1 q3 (.lst vs)=H3 at *;refine⟨_,h0,p,n,10,rfl,hp3,by decide,by decide,?_⟩;obtain⟨j,hj,jl⟩:=Dh n (show 0<10 by decide);have hj:n % 10=(j:Int):=hj;rw[hj];have hp4:upd H3 p (.lst [.int (n / 10)]) p=My (.lst [.int (n / 10)]):=gZ;have b4:But p H (upd H3 p (.lst [.int (n / 10)])):=b3.sW;have t4:hdP (upd H3 p (.lst [.int (n / 10)])) p q1=My (.tup [.int 1]):=by rw[mY np1,hU np1];exact t3
 have m4:upd H3 p (.lst [.int (n / 10)]) q3=My (.lst vs):=by rw[hU np3];exact m3
 generalize upd H3 p (.lst [.int (n / 10)])=H4 at *;have fin:∀ (u:V) (d:Dt),vs[j]?=My u->Odd d->Is K (hdP H4 p) u d->oP K (.ref q3) (.int j) H4 (λ v H'=>iW 6 v σ H' λ σ' H''=>D.nx σ' H''):=λ u d e1 e2 e4 =>⟨q3,vs,j,u,rfl,rfl,SqL.of m4,lJ e1,h u d _ H4 e2 e4 hp4 b4⟩
 have big:(10:Int) ^ Int.toNat 29=100000000000000000000000000000:=by decide +kernel
 have cs:j=0\/j=1\/j=2\/j=3\/j=4\/j=5\/j=6\/j=7\/j=8\/j=9:=by lia
 rcases cs with rfl | rfl | rfl | rfl | rfl | rfl | rfl | rfl | rfl | rfl
 ·exact fin _ (.int 8) (by rw[<-hvs];rfl) (uD _) (.int _)
 ·exact fin _ (.int nn) (by rw[<-hvs];rfl) (uD _) (.int _)
 ·exact fin _ (.int (-1)) (by rw[<-hvs];rfl) (uD _) (.int _)
 ·exact fin _ (.bl U6) (by rw[<-hvs];rfl) (Ke _) (.bl _)
 ·exact fin _ (.bl U7) (by rw[<-hvs];rfl) (Ke _) (.bl _)
 ·exact fin _ .non (by rw[<-hvs];rfl) MD .non
 ·exact fin _ (.str "1") (by rw[<-hvs];rfl) ME (.str _)
 ·exact fin _ (.tup [.int 1]) (by rw[<-hvs];rfl) MF (.tup (SqT.of t4) (.cons (.int _) .nil))
 ·exact fin _ (.int 100000000000000000000000000000) (by rw[<-hvs,big];rfl) (uD _) (.int _)
 ·exact fin _ (.int 0) (by rw[<-hvs];rfl) (uD _) (.int _)
def Kf (K:gK):Sp:=λ vs H Q _=>∃ (p:Addr) (n:Int) (v:V) (ww:Web),vs=[.ref p,v]/\Good ww/\Is K H v (h_ ww)/\H p=My (.lst [.int n]) /\
 ∀ (u:V) (d:Dt) (n':Int) (H':Hp),fit d=U6->Is K (hdP H' p) u d->H' p=My (.lst [.int n'])->But p H H'->Q u H'
def tDr (m:Int)(i:Nat):TS:=lU (jD kz [] E0 (g0 (iG 0) (g0 (tC (V.int m)) i8))) (iW i)
def tLn (K:gK):TS:=lU (jD kz [] E0 (g0 (iG 0) (g0 (tCB (Mx K) (g0 (iG 3) i8)) i8))) (iW 4)
def NF (K:gK):TS:=BO (tOp (oP K) (iG 11) (jD kz [] E0 (g0 (iG 0) (g0 (tC (V.int 20)) i8))))
def tB6 (K:gK):TS:=jx (tDS K bt6) (jx (tDS K bt7) (jx (tDS K bt8) (jx (tDS K bt9) (jx (tDS K Mb) (jx (tDS K Mc) (jx (tDS K Md) (jx (tDS K Me) (jx (tDS K Mf) (NF K)))))))))
def NG (K:gK):TS:=jx (tDS K (yV (nc 2 3) (gT 1))) (jx (tLn K) (jx (tDr 2 5) (jx (Qb K) (jx (tDr 9 7) (jx (tDr 9 8) (tB6 K))))))
theorem Kg {D:Ends}{σ:L2.St}{H:Hp}{p:Addr}{n:Int}{i:Nat}(m:Nat)(h0:σ[0]?=My (My (.ref p)))(hp:H p=My (.lst [.int n]))(m0:0<m)(mb:m<1000)
  (h:∀ (a:Nat) (n':Int),a<m->D.nx (σ.set i (My (iV a))) (upd H p (.lst [.int n']))):tDr m i D σ H:=by
 obtain⟨a,ha,am⟩:=Dh n m0;refine⟨_,h0,p,n,m,rfl,hp,by lia,by lia,?_⟩;rw[ha];exact h a _ am
theorem R_ {D:Ends}{σ:L2.St}{H:Hp}{p:Addr}{n:Int}{v:V}{l:gN}(h0:σ[0]?=My (My (.ref p)))(h3:σ[3]?=My (My v))(iv:Is K H v (iK l))(hp:H p=My (.lst [.int n]))(m0:0<l.length)(mb:l.length<=30)
  (h:∀ (a:Nat) (n':Int),a<l.length->D.nx (σ.set 4 (My (iV a))) (upd H p (.lst [.int n']))):tLn K D σ H:=by
 obtain⟨q,ys,rfl,sq,is⟩:=iv.iI;have e:ys.length=l.length:=by rw[is.length,ah]
 obtain⟨a,ha,am⟩:=Dh n m0;refine⟨_,h0,_,h3,q,ys,rfl,.inr sq,p,n,ys.length,rfl,hp,by lia,by lia,?_⟩;rw[e,ha];exact h a _ am
theorem MG {D:Ends}{σ:L2.St}{H:Hp}{p:Addr}{n:Int}{v:V}{ds:List Dt}(h0:σ[0]?=My (My (.ref p)))(h11:σ[11]?=My (My v))(iv:Is K H v (.lst ds))(hl:ds.length=20)(hf:∀ d∈ds,fit d=U6)(hp:H p=My (.lst [.int n]))
  (h:∀ (u:V) (d:Dt) (n':Int) (H':Hp),fit d=U6->Is K (hdP H' p) u d->H' p=My (.lst [.int n'])->But p H H'->D.rt u H'):NF K D σ H:=by
 have nn:jO (.lst ds)=U6:=by
  have a:i_ ds=U6:=jQ.mpr λ d hd=>by have:=hf d hd;unfold fit at this;rw[aP,aP]at this;exact this.2.2
  match ds,hl,a with
  | x::y::r,_,a =>
   have:Pw (x::y::r)=U7:=by cases x<;>rfl
   rw[jO,a,this];rfl
 obtain⟨q,vs,rfl,hq,is⟩:=(Eu hp _ nn iv).lst_inv;have nq:q≠p:=λ z=>by subst z;unfold hdP at hq;rw[ai rfl]at hq;cases hq
 rw[mY nq]at hq;obtain⟨a,ha,am⟩:=Dh n (show 0<20 by decide);have ha:n % 20=(a:Int):=ha;refine⟨_,h11,_,h0,p,n,20,rfl,hp,by decide,by decide,?_⟩;rw[ha];have hd:a<ds.length:=by lia
 obtain⟨u,hu,iu⟩:=is.get (aA hd);refine⟨q,vs,a,u,rfl,rfl,SqL.of (by rw[hU nq];exact hq),lJ hu,?_⟩;exact h u _ _ _ (hf _ (dZ hd)) (by rw[qi];exact iu) gZ (But.refl p H).sW
theorem G4 (n:Nat)(l:gN)(k wh:Nat)(t:Nat×Nat)(od:Dt)(o:Nat×Nat):(JG n l k wh t od o).length=20:=rfl
theorem Sa {D:Ends}{H:Hp}{p:Addr}{n:Int}{y1 v3 u:V}{m k wh c d:Nat}{l:gN}{t:Nat×Nat}{od:Dt}{x9 x10 x11:gJ V}(hk:l[k]?=My t)(hl:l.length<=30)(hw:wh<2)(ho:Odd od)(i3:Is K H v3 (iK l))(iu:Is K H u od)(hp:H p=My (.lst [.int n]))
  (h:∀ (u:V) (d:Dt) (n':Int) (H':Hp),fit d=U6->Is K (hdP H' p) u d->H' p=My (.lst [.int n'])->But p H H'->D.rt u H'):tB6 K D [My (.ref p),My y1,My (iV m),My v3,My (iV k),My (iV wh),My u,My (iV c),My (iV d),x9,x10,x11] H:=by
 refine⟨_,_,stS (.opq _) (stN (stS (.int _) (stS i3 (stS (.int _) (stS (.int _) (stS iu (stS (.int _) (stS (.int _) (stN (stN (stN L2.stE))))))))))),Py hk hl ..,λ H1 s1 σ1 S1=>⟨_,_,S1,Pz hk hl ..,λ H2 s2 σ2 S2=>⟨_,_,S2,PB hk hl ..,λ H3 s3 σ3 S3=>⟨_,_,S3,PH hk hl _ _ (by show 2<=100;decide) ..,λ H4 s4 σ4 S4=>⟨_,_,S4,Mg hk hl _ _ (by show 4<=100;decide) ..,λ H5 s5 σ5 S5=>⟨_,_,S5,Mh hk hl _ _ (by show 6<=100;decide) ..,λ H6 s6 σ6 S6=>⟨_,_,S6,Mi hk hl _ _ (by show 9<=100;decide) ..,λ H7 s7 σ7 S7=>⟨_,_,S7,Mj (o:=(c,d)) hk hl _ _ (by show 11<=100;decide) ..,λ H8 s8 σ8 S8=>⟨_,_,S8,Ml hk hl _ _ (by show 18<=100;decide) ..,λ H9 s9 σ9 S9=>?_⟩⟩⟩⟩⟩⟩⟩⟩⟩;have s:=((((((((s1.trans s2).trans s3).trans s4).trans s5).trans s6).trans s7).trans s8).trans s9);clear S1 S2 S3 S4 S5 S6 S7 S8;obtain⟨v0,e0,i0⟩:=S9.at_ 0 _ rfl;obtain⟨v11,e11,i11⟩:=S9.at_ 11 _ rfl;have:=i0.m_;subst this;exact MG e0 e11 i11 (G4 m l k wh t od (c,d)) (JJ hl ho.1 ho.2.1 ho.2.2.1 (ho.2.2.2 t wh hw)) (s _ _ hp) λ u d n' H' hf iu hp' b=>h u d n' H' hf iu hp' (λ a o e ne=>b a o (s _ _ e) ne)
theorem Kh {D:Ends}{H:Hp}{p:Addr}{n:Int}{v:V}{ww:Web}(hg:Good ww)(iw:Is K H v (h_ ww))(hp:H p=My (.lst [.int n])){x2 x3 x4 x5 x6 x7 x8 x9 x10 x11:gJ V}
  (h:∀ (u:V) (d:Dt) (n':Int) (H':Hp),fit d=U6->Is K (hdP H' p) u d->H' p=My (.lst [.int n'])->But p H H'->D.rt u H'):NG K D [My (.ref p),My v,x2,x3,x4,x5,x6,x7,x8,x9,x10,x11] H:=by
 have lp:0<ww.2.length:=dU.mpr hg.ne;have l30:=hg.len;refine⟨_,_,stS (.opq _) (stS iw (stN (stN (stN (stN (stN (stN (stN (stN (stN (stN L2.stE))))))))))),(rfl:yV (nc 2 3) (gT 1) [My (.opq (.ref p)),My (h_ ww),U5,U5,U5,U5,U5,U5,U5,U5,U5,U5]=My (.nx [My (.opq (.ref p)),My (h_ ww),My (gR ww.1),My (iK ww.2),U5,U5,U5,U5,U5,U5,U5,U5])),λ H1 s1 σ1 S1=>?_⟩;obtain⟨y0,r0,rfl,j0,R0⟩:=S1.inv;obtain⟨y1,r1,rfl,j1,R1⟩:=R0.inv;obtain⟨y2,r2,rfl,j2,R2⟩:=R1.inv;obtain⟨y3,r3,rfl,j3,R3⟩:=R2.inv;obtain⟨z4,r4,rfl,R4⟩:=R3.zq;obtain⟨z5,r5,rfl,R5⟩:=R4.zq;obtain⟨z6,r6,rfl,R6⟩:=R5.zq;obtain⟨z7,r7,rfl,R7⟩:=R6.zq;obtain⟨z8,z9,z10,z11,rfl⟩:=R7.Ui;have:=j0.m_;subst this;have:=j2.int_inv;subst this;clear S1 R0 R1 R2 R3 R4 R5 R6 R7;have hp1:=s1 _ _ hp;have g3:=Eu hp1 _ (mf (mI ww.2)) j3;have b1:But p H H1:=λ a o e _=>s1 a o e;clear hp;refine R_ rfl rfl j3 hp1 lp l30 λ k n1 hk=>?_;have b2:But p H (upd H1 p (.lst [.int n1])):=b1.sW;have hp2:upd H1 p (.lst [.int n1]) p=My (.lst [.int n1]):=gZ;have g3:Is K (hdP (upd H1 p (.lst [.int n1])) p) y3 (iK ww.2):=by rw[qi];exact g3
 generalize upd H1 p (.lst [.int n1])=H2 at *;refine Kg 2 rfl hp2 (by decide) (by decide) λ wh n2 hw=>?_;have b3:But p H (upd H2 p (.lst [.int n2])):=b2.sW;have hp3:upd H2 p (.lst [.int n2]) p=My (.lst [.int n2]):=gZ;have g3:Is K (hdP (upd H2 p (.lst [.int n2])) p) y3 (iK ww.2):=by rw[qi];exact g3
 generalize upd H2 p (.lst [.int n2])=H3 at *;refine Qj (nn:=ww.1) rfl rfl hp3 λ u od n3 H4 ho iu hp4 c4=>?_;have b4:But p H H4:=λ a o e ne=>c4 a o (b3 a o e ne) ne;have g3:Is K (hdP H4 p) y3 (iK ww.2):=g3.ext (rR λ a o e ne=>c4 a o e ne);refine Kg 9 rfl hp4 (by decide) (by decide) λ c n5 hc=>?_;have b5:But p H (upd H4 p (.lst [.int n5])):=b4.sW;have hp5:upd H4 p (.lst [.int n5]) p=My (.lst [.int n5]):=gZ;have g3:Is K (hdP (upd H4 p (.lst [.int n5])) p) y3 (iK ww.2):=by rw[qi];exact g3
 have iu:Is K (hdP (upd H4 p (.lst [.int n5])) p) u od:=by rw[qi];exact iu
 generalize upd H4 p (.lst [.int n5])=H5 at *;refine Kg 9 rfl hp5 (by decide) (by decide) λ d n6 hd=>?_;have b6:But p H (upd H5 p (.lst [.int n6])):=b5.sW;have hp6:upd H5 p (.lst [.int n6]) p=My (.lst [.int n6]):=gZ;have g3:Is K (hdP (upd H5 p (.lst [.int n6])) p) y3 (iK ww.2):=by rw[qi];exact g3
 have iu:Is K (hdP (upd H5 p (.lst [.int n6])) p) u od:=by rw[qi];exact iu
 generalize upd H5 p (.lst [.int n6])=H6 at *;exact Sa (aA hk) l30 hw ho (g3.ext (qY _ _)) (iu.ext (qY _ _)) hp6 λ u d n' H' hf iu hp' b=>h u d n' H' hf iu hp' (λ a o e ne=>b a o (b6 a o e ne) ne)
theorem MH (T:Txt K mg):OkT P w base T.ja 2 (Kf K):=by
 refine T.ja.F.ok iR (λ vs H Q E h=>?_) (λ cdv A outer s H vs Q E hr h=>?_)
 ·obtain⟨p,n,v,ww,rfl,_⟩:=h;rfl
 ·obtain⟨p,n,v,ww,rfl,hg,iw,hp,q⟩:=h
  refine⟨NG K,g9 (uW (dv 1) (mW rfl (iZ (pgo 2) (iZ (pgo 3) lI))) l8)
   (g9 (iY (i:=4) iR.nd rfl (Or.inl rfl) (pC T.iJ (jL T) hr (gW (pv 0) (gW (kD lX (by rfl) T.rm cB (gW (pv 3) hZ)) hZ))))
   (g9 (iY (i:=5) iR.nd rfl (Or.inl rfl) (pC T.iJ (jL T) hr (gW (pv 0) (gW ic hZ))))
   (g9 (Qc T cdv A outer s H E hr _ rfl)
   (g9 (iY (i:=7) iR.nd rfl (Or.inl rfl) (pC T.iJ (jL T) hr (gW (pv 0) (gW ic hZ))))
   (g9 (iY (i:=8) iR.nd rfl (Or.inl rfl) (pC T.iJ (jL T) hr (gW (pv 0) (gW ic hZ))))
   (g9 (RV T cdv A outer s H E hr _ rfl) (g9 (RW T cdv A outer s H E hr _ rfl) (g9 (RY T cdv A outer s H E hr _ rfl) (g9 (RZ T cdv A outer s H E hr _ rfl) (g9 (Qd T cdv A outer s H E hr _ rfl) (g9 (Qf T cdv A outer s H E hr _ rfl) (g9 (Qg T cdv A outer s H E hr _ rfl) (g9 (Qh T cdv A outer s H E hr _ rfl) (g9 (Qi T cdv A outer s H E hr _ rfl)
   (ji (lW (mq kK (pv 11) (pC T.iJ (jL T) hr (gW (pv 0) (gW ic hZ))) (λ _ _=>rfl)))))))))))))))))),?_⟩
  exact Kh hg iw hp q
end
end K11
namespace L2
open PySem PySem.Spec PyProof.Rows Zp Qs
structure Re (W D:Nat)(d:Dt):Prop where
 pl:plD d=U6
 sh:(toPy d).showable=U6
 lv:(toPy d).leavesShort 100=U6
 wt:(toPy d).weight<=W
 dp:(toPy d).depth<=D
theorem Re.mono {W D W' D':Nat}{d:Dt}(h:Re W D d)(hW:W<=W':=by lia)(hD:D<=D':=by lia):Re W' D' d:=⟨h.pl,h.sh,h.lv,bD h.wt hW,bD h.dp hD⟩
theorem Re.rp {d:Dt}(h:Re 40000 20 d):Em d=U6:=by
 have h6:(toPy d).shown.length<=sizeLine:=by have:=PyData.shown_le 100 (by decide) _ h.lv;have:=h.wt;rw[sizeLine_eq];lia
 have h5:(toPy d).depth<=40:=by have:=h.dp;lia
 unfold Em;rw[h.pl,h.sh,decide_eq_true h6,decide_eq_true h5];rfl
theorem EF {W D:Nat}:∀ ds:List Dt,(∀ d∈ds,Re W D d)->CP ds=U6/\PyData.showableAll (nS ds)=U6/\PyData.leavesShortAll 100 (nS ds)=U6/\PyData.weightAll (nS ds)<=(W+1)*ds.length/\PyData.depthAll (nS ds)<=D
 | [],_=>⟨by rw[CP],by rw[nS,PyData.showableAll],by rw[nS,PyData.leavesShortAll],by rw[nS,PyData.weightAll];lia,by rw[nS,PyData.depthAll];lia⟩
 | d::r,h=>by obtain⟨a,b,c,e,f⟩:=EF r λ y hy=>h y (ay _ hy);have hx:=h d aB;rw[CP,nS,PyData.showableAll,PyData.leavesShortAll,PyData.weightAll,PyData.depthAll,a,b,c,hx.pl,hx.sh,hx.lv,bf,Nat.mul_succ];have:=hx.wt;have:=hx.dp;exact⟨rfl,rfl,rfl,by lia,by lia⟩
theorem Re.tup {W D:Nat}(m:Nat){ds:List Dt}(h:∀ d∈ds,Re W D d)(hl:ds.length<=m):Re ((W+1)*m) (D+1) (.tup ds):=by obtain⟨a,b,c,d,e⟩:=EF ds h;have:=JK (W:=W) hl;exact⟨by rw[plD];exact a,by rw[toPy,PyData.showable];exact b,by rw[toPy,PyData.leavesShort];exact c,by rw[toPy,PyData.weight];lia,by rw[toPy,PyData.depth];lia⟩
theorem Re.lst {W D:Nat}(m:Nat){ds:List Dt}(h:∀ d∈ds,Re W D d)(hl:ds.length<=m):Re ((W+1)*m) (D+1) (.lst ds):=by obtain⟨a,b,c,d,e⟩:=EF ds h;have:=JK (W:=W) hl;exact⟨by rw[plD];exact a,by rw[toPy,PyData.showable];exact b,by rw[toPy,PyData.leavesShort];exact c,by rw[toPy,PyData.weight];lia,by rw[toPy,PyData.depth];lia⟩
theorem EG {i:Int}(h:i.natAbs<2 ^ 270):Re 300 2 (.int i):=by
 have lg:i.natAbs.log2<270:=by
  by_cases h0:i.natAbs=0
  ·rw[h0];decide
  ·exact(Nat.log2_lt h0).mpr h
 refine⟨by simp[plD],?_,?_,?_,by rw[toPy,PyData.depth];lia⟩
 ·rw[toPy,PyData.showable,decide_eq_true_eq];lia
 ·rw[toPy,PyData.leavesShort,decide_eq_true_eq];have e:=PySem.int_text_length_le10 (a:=i) (k:=99) (by decide) (Nat.lt_trans h (by decide +kernel));show(Str.ofString (toString i)).length<=100;rw[PySem.ofString_length];exact e
 ·rw[toPy,PyData.weight];split<;>lia
theorem MI {c N:Nat}(h:0<N)(hN:N<2 ^ 270)(hc:c<=N):Re 903 3 (hV (fr c N)):=by
 obtain⟨_,h2,h3⟩:=Eb (c:=c) h;refine Re.tup 3 (W:=300) (D:=2) (ds:=[.int (fr c N).num,.int (fr c N).den]) (λ d hd=>?_) (by simp);simp only[aD,bg,or_false]at hd;rcases hd with rfl | rfl
 ·exact EG (by lia)
 ·exact EG (by lia)
section
variable {w:Web}(g:Good w)
include g
theorem Good.MJ {a b n:Nat}(ha:a<w.1)(hb:b<w.1)(hn:n<=30):Em (.lst [.tup ((PQ w n a).map hV),gR (wy w n a b)])=U6:=by
 have h8:=g.mv;have N0:=nP n;have N1:420 ^ n<2 ^ 270:=bN (cR (by decide) hn) (by decide +kernel);have W1:wy w n a b<2 ^ 270:=bN (g.Nm a n b) (bN (cR (by decide) hn) (by decide +kernel));refine Re.rp ((Re.lst 2 (W:=9040) (D:=5) (ds:=[.tup ((PQ w n a).map hV),gR (wy w n a b)]) (λ d hd=>?_) (by simp)).mono);simp only[aD,bg,or_false]at hd;rcases hd with rfl | rfl
 ·refine(Re.tup 10 (W:=903) (D:=3) (λ d hd=>?_) (by rw[ah,Ed];lia)).mono;obtain⟨q,hq,rfl⟩:=aE.mp hd;obtain⟨p,hp,rfl⟩:=aE.mp hq;exact MI N0 N1 (g.FC n ha (aC.mp hp))
 ·exact(EG (i:=((wy w n a b:Nat):Int)) W1).mono
end
theorem qj (k:Int){x y z u:Dt}(hx:okW x=U6)(hy:kdB y=U6)(hz:kdB z=U6)(hu:kdB u=U6):mi [.int k,x,y,z,u]=My (sdX (k_ k x y z u)):=ai ⟨hx,hy,hz,hu⟩
def p7:DE->gJ RD:=(jB 9 (lQ (gP (hG 3 pX (gP (gT 3) (gP (gT 5) (gP (gT 4) gS)))) (gP (hG 4 oy (gP (gT 3) (gP (gT 5) (gP (gT 6) (gP (gT 4) gS))))) gS))))
def p8b:DE->gJ RD:=(jc (jB 11 (gLC ["_law_door"] [3,5,6,4] (jJ (gP (gC (.int 2)) gS)) (ggN 0) jd (hG 5 mi (gP (gT 0) (gP (gT 1) (gP (gT 2) (gP (gT 3) (gP (gT 4) gS)))))))) (sF (gB (g_ vT (iM FE (gP (gT 11) gS)) (iM FE (gP (gT 9) gS)))) (kc (gC (.bl U7))) mL))
def p8:DE->gJ RD:=(rY (jJ (gP (gC (.int 2)) gS)) (ggN 10) p8b)
def p10:DE->gJ RD:=(jB 11 (gLC ["_law_door"] [12,7,8] (jJ (gP (gC (.int 2)) gS)) (ggN 0) jd (hG 5 mi (gP (gT 0) (gP (gT 1) (gP (gT 2) (gP (gT 2) (gP (gT 3) gS))))))))
def p11:DE->gJ RD:=(sF (HW (lP (gTr (hG 1 mH (gP (gT 12) gS)))) (gB (g_ Eg (gT 11) (g_ Ci (lQ (gP (gC (.str "web")) gS)) (gC (.int 2)))))) (kc (gC (.bl U7))) mL)
def p12:DE->gJ RD:=(jB 11 (lQ (gP (hG 5 mi (gP (gC (.int 0)) (gP (gT 3) (gP (gT 7) (gP (gT 6) (gP (gT 8) gS)))))) (gP (hG 5 mi (gP (gC (.int 1)) (gP (gT 3) (gP (gT 7) (gP (gT 6) (gP (gT 8) gS)))))) (gP (hG 5 mi (gP (gC (.int 1)) (gP (gT 3) (gP (gT 5) (gP (gT 7) (gP (gT 8) gS)))))) gS)))))
def p13:DE->gJ RD:=(sF (gB (g_ Eg (gT 11) (g_ Ci (lQ (gP (gC (.str "place")) gS)) (gC (.int 3))))) (kc (gC (.bl U7))) mL)
def p14:DE->gJ RD:=(sF (gB (g_ Eg (lQ (gP (hG 5 mi (gP (gC (.int 0)) (gP (gT 3) (gP (gT 5) (gP (gT 6) (gP (gT 8) gS)))))) (gP (hG 5 mi (gP (gC (.int 1)) (gP (gT 3) (gP (gT 5) (gP (gT 6) (gP (gT 8) gS)))))) gS))) (g_ Ci (lQ (gP (gC (.str "number")) gS)) (gC (.int 2))))) (kc (gC (.bl U7))) mL)
section
variable {w:Web}(g:Good w){a b n:Nat}(ha:a<w.1)(hb:b<w.1)(hn:n<=30)
include g ha
theorem Good.Uj (hn:n<=30)(z:Dt):k_ 0 (h_ w) (gR a) z (gR n)=.ok (.tup ((PQ w n a).map hV)):=by unfold k_ sR xWP;rw[ai rfl,pS g];dsimp only;rw[pT (w:=w) ha];dsimp only;rw[Bq (m:=30) (k:=n) (by lia)];rfl
include hb
theorem Good.Uk (hn:n<=30):k_ 1 (h_ w) (gR a) (gR b) (gR n)=.ok (gR (wy w n a b)):=by unfold k_ m9 Bo xWP;rw[au (by decide),pS g];dsimp only;rw[pT (w:=w) ha];dsimp only;rw[pT (w:=w) hb];dsimp only;rw[Bq (m:=30) (k:=n) (by lia)];rfl
include hn
theorem Good.Sb (x0 x1 x2 x7 x8 x9 x10 x11 x12:gJ Dt):p7 [x0,x1,x2,My (h_ w),My (gR n),My (gR a),My (gR b),x7,x8,x9,x10,x11,x12]=My (.nx [x0,x1,x2,My (h_ w),My (gR n),My (gR a),My (gR b),x7,x8,My (.lst [.tup ((PQ w n a).map hV),gR (wy w n a b)]),x10,x11,x12]):=by
 have c1:pX [h_ w,gR a,gR n]=My (.tup ((PQ w n a).map hV)):=by show(dW (h_ w)).bind (λ w=>(jU (gR a)).bind λ p=>(jU (gR n)).bind λ n=>if p<w.1/\n<=30 then My (Dt.tup ((PQ w n p).map hV)) else U5)=_;rw[mC g,jj,jj,ak,ak,ak,ai ⟨ha,hn⟩]
 have c2:oy [h_ w,gR a,gR b,gR n]=My (gR (wy w n a b)):=by show(dW (h_ w)).bind (λ w=>(jU (gR a)).bind λ a=>(jU (gR b)).bind λ b=>(jU (gR n)).bind λ k=>if a<w.1/\b<w.1/\k<=30 then My (gR (wy w k a b)) else U5)=_;rw[mC g,jj,jj,jj,ak,ak,ak,ak,ai ⟨ha,hb,hn⟩]
 generalize gR n=nn,gR b=bb,gR a=aa,h_ w=ww,gR (wy w n a b)=q2,Dt.tup ((PQ w n a).map hV)=q1 at *;simp[p7,c1,c2]
theorem Good.Ki (x0 x1 x2 x7 x8 x10 x11 x12:gJ Dt):p8b [x0,x1,x2,My (h_ w),My (gR n),My (gR a),My (gR b),x7,x8,My (.lst [.tup ((PQ w n a).map hV),gR (wy w n a b)]),x10,x11,x12]=My (.nx [x0,x1,x2,My (h_ w),My (gR n),My (gR a),My (gR b),x7,x8,My (.lst [.tup ((PQ w n a).map hV),gR (wy w n a b)]),x10,My (.lst [.tup ((PQ w n a).map hV),gR (wy w n a b)]),x12]):=by
 have s0:=qj 0 g.pW (show kdB (gR a)=U6 from rfl) (show kdB (gR b)=U6 from rfl) (show kdB (gR n)=U6 from rfl);have s1:=qj 1 g.pW (show kdB (gR a)=U6 from rfl) (show kdB (gR b)=U6 from rfl) (show kdB (gR n)=U6 from rfl);rw[g.Uj ha hn]at s0;rw[g.Uk ha hb hn]at s1;have s0:mi [.int 0,h_ w,gR a,gR b,gR n]=My (.tup ((PQ w n a).map hV)):=s0;have s1:mi [.int 1,h_ w,gR a,gR b,gR n]=My (gR (wy w n a b)):=s1;have rp:=Mn (g.MJ ha hb hn);have ne:=Mm (rpS (.lst [.tup ((PQ w n a).map hV),gR (wy w n a b)]));generalize gR n=nn,gR b=bb,gR a=aa,h_ w=ww,gR (wy w n a b)=q2,Dt.tup ((PQ w n a).map hV)=q1,rpS (.lst [.tup ((PQ w n a).map hV),gR (wy w n a b)])=rs at *;have lc:gLC ["_law_door"] [3,5,6,4] (jJ (gP (gC (.int 2)) gS)) (ggN 0) jd (hG 5 mi (gP (gT 0) (gP (gT 1) (gP (gT 2) (gP (gT 3) (gP (gT 4) gS)))))) [x0,x1,x2,My ww,My nn,My aa,My bb,x7,x8,My (.lst [q1,q2]),x10,x11,x12]=My (.lst [q1,q2]):=by have e:jJ (gP (gC (.int 2)) gS) [x0,x1,x2,My ww,My nn,My aa,My bb,x7,x8,My (.lst [q1,q2]),x10,x11,x12]=My [.int 0,.int 1]:=rfl;unfold gLC;rw[e];simp[rX,vv,s0,s1,jd,ggN]
 have st:jB 11 (gLC ["_law_door"] [3,5,6,4] (jJ (gP (gC (.int 2)) gS)) (ggN 0) jd (hG 5 mi (gP (gT 0) (gP (gT 1) (gP (gT 2) (gP (gT 3) (gP (gT 4) gS))))))) [x0,x1,x2,My ww,My nn,My aa,My bb,x7,x8,My (.lst [q1,q2]),x10,x11,x12]=My (.nx [x0,x1,x2,My ww,My nn,My aa,My bb,x7,x8,My (.lst [q1,q2]),x10,My (.lst [q1,q2]),x12]):=by unfold jB;rw[lc];rfl
 unfold p8b;rw[nV st];simp[rp,ne]
theorem Good.Sd (x0 x1 x2 x7 x8 x10 x11 x12:gJ Dt):p8 [x0,x1,x2,My (h_ w),My (gR n),My (gR a),My (gR b),x7,x8,My (.lst [.tup ((PQ w n a).map hV),gR (wy w n a b)]),x10,x11,x12]=My (.nx [x0,x1,x2,My (h_ w),My (gR n),My (gR a),My (gR b),x7,x8,My (.lst [.tup ((PQ w n a).map hV),gR (wy w n a b)]),My (.int 1),My (.lst [.tup ((PQ w n a).map hV),gR (wy w n a b)]),x12]):=by have e1:=g.Ki ha hb hn x0 x1 x2 x7 x8 (My (.int 0)) x11 x12;have e2:=g.Ki ha hb hn x0 x1 x2 x7 x8 (My (.int 1)) (My (.lst [.tup ((PQ w n a).map hV),gR (wy w n a b)])) x12;show kO (ggN 10) p8b _ [.int 0,.int 1]=_;generalize p8b=f,gR n=nn,gR b=bb,gR a=aa,h_ w=ww,Dt.lst [.tup ((PQ w n a).map hV),gR (wy w n a b)]=ll at *;simp[kO,ggN,e1,e2]
end
theorem Ah {x:Dt}(h:kM x=U7)(k:Int)(y z u:Dt):k_ k x y z u=.error "NoWeb":=by
 have e:xW x=.error "NoWeb":=by
  rw[FG]at h;unfold xW;cases d:dW x with
  | none=>rfl
  | some w=>rw[d]at h;cases h
 unfold k_ sR m9 Bo xWP;rw[e];split<;>rfl
theorem Kj {x dn df:Dt}(hf:fit x=U6)(hd:kdB dn=U6)(hu:kdB df=U6)(x0 x1 x2 x3 x4 x5 x6 x9 x10 x11:gJ Dt):∃ y11,jc p10 p11 [x0,x1,x2,x3,x4,x5,x6,My dn,My df,x9,x10,x11,My x]=My (.nx [x0,x1,x2,x3,x4,x5,x6,My dn,My df,x9,x10,y11,My x]):=by
 have hx:okW x=U6/\shW x=U6:=by unfold fit at hf;rw[aP,aP]at hf;exact⟨hf.1,hf.2.1⟩
 have lw:=Px hx.1 hx.2;have s0:=qj 0 hx.1 hd hd hu;have s1:=qj 1 hx.1 hd hd hu;have no:=λ h=>Ah (x:=x) h 0 dn dn df;have no1:=λ h=>Ah (x:=x) h 1 dn dn df;refine⟨My (.lst [sdX (k_ 0 x dn dn df),sdX (k_ 1 x dn dn df)]),?_⟩;have rep:Ci (.lst [.str "web"]) (.int 2)=My (.lst [.str "web",.str "web"]):=rfl;have n3:Eg (.lst [.str "web",.str "web"]) (.lst [.str "web",.str "web"])=My (.bl U7):=rfl;have lc:gLC ["_law_door"] [12,7,8] (jJ (gP (gC (.int 2)) gS)) (ggN 0) jd (hG 5 mi (gP (gT 0) (gP (gT 1) (gP (gT 2) (gP (gT 2) (gP (gT 3) gS)))))) [x0,x1,x2,x3,x4,x5,x6,My dn,My df,x9,x10,x11,My x]=My (.lst [sdX (k_ 0 x dn dn df),sdX (k_ 1 x dn dn df)]):=by have e:jJ (gP (gC (.int 2)) gS) [x0,x1,x2,x3,x4,x5,x6,My dn,My df,x9,x10,x11,My x]=My [.int 0,.int 1]:=rfl;generalize sdX (k_ 1 x dn dn df)=r1,sdX (k_ 0 x dn dn df)=r0 at *;unfold gLC;rw[e];simp[rX,vv,s0,s1,jd,ggN]
 have st:p10 [x0,x1,x2,x3,x4,x5,x6,My dn,My df,x9,x10,x11,My x]=My (.nx [x0,x1,x2,x3,x4,x5,x6,My dn,My df,x9,x10,My (.lst [sdX (k_ 0 x dn dn df),sdX (k_ 1 x dn dn df)]),My x]):=by unfold p10 jB;rw[lc];rfl
 rw[nV st];cases hb:kM x with
 | true =>rw[hb]at lw;generalize sdX (k_ 1 x dn dn df)=r1,sdX (k_ 0 x dn dn df)=r0 at *;simp[p11,lw]
 | false =>rw[hb]at lw;rw[no hb,no1 hb];have e:sdX (.error "NoWeb":XD)=.str "web":=rfl;rw[e];generalize Dt.lst [.str "web",.str "web"]=ww at *;simp[p11,lw,rep,n3]
theorem Good.Kk {w:Web}(g:Good w){a b:Nat}(ha:a<w.1)(hb:b<w.1){dn df:Dt}(pl:nU w.1 dn=U7)(kd:kdB dn=U6)(nf:vb 30 df=U7)(kf:kdB df=U6)(x0 x1 x2 x4 x9 x10 x11 x12:gJ Dt):∃ y11,jc p12 (jc p13 p14) [x0,x1,x2,My (h_ w),x4,My (gR a),My (gR b),My dn,My df,x9,x10,x11,x12]=My (.nx [x0,x1,x2,My (h_ w),x4,My (gR a),My (gR b),My dn,My df,x9,x10,y11,x12]):=by
 have no:=Rv pl;have nn:=Nv nf;have kb:kdB (gR b)=U6:=rfl;have ka:kdB (gR a)=U6:=rfl;have t0:k_ 0 (h_ w) dn (gR b) df=.error "NoPlace":=by unfold k_ sR xWP;rw[ai rfl,pS g];dsimp only;rw[no]
 have t1:k_ 1 (h_ w) dn (gR b) df=.error "NoPlace":=by unfold k_ m9 Bo xWP;rw[au (by decide),pS g];dsimp only;rw[no]
 have t2:k_ 1 (h_ w) (gR a) dn df=.error "NoPlace":=by unfold k_ m9 Bo xWP;rw[au (by decide),pS g];dsimp only;rw[pT (w:=w) ha];dsimp only;rw[no]
 have t3:k_ 0 (h_ w) (gR a) (gR b) df=.error "NoNumber":=by unfold k_ sR xWP;rw[ai rfl,pS g];dsimp only;rw[pT (w:=w) ha];dsimp only;rw[nn]
 have t4:k_ 1 (h_ w) (gR a) (gR b) df=.error "NoNumber":=by unfold k_ m9 Bo xWP;rw[au (by decide),pS g];dsimp only;rw[pT (w:=w) ha];dsimp only;rw[pT (w:=w) hb];dsimp only;rw[nn]
 have s0:=qj 0 g.pW kd kb kf;have s1:=qj 1 g.pW kd kb kf;have s2:=qj 1 g.pW ka kd kf;have s3:=qj 0 g.pW ka kb kf;have s4:=qj 1 g.pW ka kb kf;rw[t0]at s0;rw[t1]at s1;rw[t2]at s2;rw[t3]at s3;rw[t4]at s4;have s0:mi [.int 0,h_ w,dn,gR b,df]=My (.str "place"):=s0;have s1:mi [.int 1,h_ w,dn,gR b,df]=My (.str "place"):=s1;have s2:mi [.int 1,h_ w,gR a,dn,df]=My (.str "place"):=s2;have s3:mi [.int 0,h_ w,gR a,gR b,df]=My (.str "number"):=s3;have s4:mi [.int 1,h_ w,gR a,gR b,df]=My (.str "number"):=s4;have rep:Ci (.lst [.str "place"]) (.int 3)=My (.lst [.str "place",.str "place",.str "place"]):=rfl;have n3:Eg (.lst [.str "place",.str "place",.str "place"]) (.lst [.str "place",.str "place",.str "place"])=My (.bl U7):=rfl;have rep2:Ci (.lst [.str "number"]) (.int 2)=My (.lst [.str "number",.str "number"]):=rfl;have n4:Eg (.lst [.str "number",.str "number"]) (.lst [.str "number",.str "number"])=My (.bl U7):=rfl;refine⟨My (.lst [.str "place",.str "place",.str "place"]),?_⟩;generalize gR b=bb,gR a=aa,h_ w=ww at *;have u12:p12 [x0,x1,x2,My ww,x4,My aa,My bb,My dn,My df,x9,x10,x11,x12]=My (.nx [x0,x1,x2,My ww,x4,My aa,My bb,My dn,My df,x9,x10,My (.lst [.str "place",.str "place",.str "place"]),x12]):=by simp[p12,s0,s1,s2]
 rw[nV u12];have u13:p13 [x0,x1,x2,My ww,x4,My aa,My bb,My dn,My df,x9,x10,My (.lst [.str "place",.str "place",.str "place"]),x12]=My (.nx [x0,x1,x2,My ww,x4,My aa,My bb,My dn,My df,x9,x10,My (.lst [.str "place",.str "place",.str "place"]),x12]):=by generalize Dt.lst [.str "place",.str "place",.str "place"]=ll at *;simp[p13,rep,n3]
 rw[nV u13];simp[p14,s3,s4,rep2,n4]
open PySem.SeqAt
section
variable {X:Cx}
end
section
variable {X:Cx}{es fs ks':List Expr}{t:TE}{ts:TA}{p:Pos}{j:Nat}{c:Const}{ks:List (gJ Expr)}{vs:List Expr}{k v:Expr}{tk tv:TE}
theorem stD {env:Env}:starEach (.Dict ks vs p::es) env=(U7,eval (.Dict ks vs p) env)::starEach es env:=rfl
theorem EH {c:Const}{n}(h:PE X (.Constant c n p) t)(h2:PA X es ts):PA X (.Constant c n p::es) (g0 t ts):=gW h h2 stC
theorem Ul {n}(h:PE X (.Tuple fs n p) t)(h2:PA X es ts):PA X (.Tuple fs n p::es) (g0 t ts):=gW h h2 stT
theorem Um (h:PE X (.List fs p) t)(h2:PA X es ts):PA X (.List fs p::es) (g0 t ts):=gW h h2 stL
theorem Uo (h:PE X (.Dict ks vs p) t)(h2:PA X es ts):PA X (.Dict ks vs p::es) (g0 t ts):=gW h h2 stD
end
end L2
namespace L2
open PySem PySem.Spec PyProof.Rows Zp Qs
section
variable {X:Cx}{es:List Expr}{t:TE}{ts:TA}{p:Pos}{a b:Expr}
theorem Up {o:UnaryOp}(h:PE X (.UnaryOp o a p) t)(h2:PA X es ts):PA X (.UnaryOp o a p::es) (g0 t ts):=gW h h2 stU
theorem Uq {o:Operator}(h:PE X (.BinOp a o b p) t)(h2:PA X es ts):PA X (.BinOp a o b p::es) (g0 t ts):=gW h h2 stB
end
def MK:TE:=rV (g0 (tC (.int 31)) (g0 (tUn (rU λ i=>V.int (-i)) (tC (V.int 1))) (g0 (tC (.bl U6)) (g0 (tC (.bl U7)) (g0 (tC .non) (g0 (tC (.str "1")) (g0 (Aq (g0 (tC (.int 1)) i8)) (g0 (tOp (rI Kv λ i j=>V.int (i ^ j.toNat)) (tC (.int 10)) (tC (.int 29))) (g0 (rV (g0 (tC (.int 1)) i8)) (g0 Hw i8))))))))))
theorem Se {X:Cx}{k0 k1 k2 k3 k4 k5 k6 k7 k8 k9 j6}{p0 p1 p1' p2 p3 p4 p5 p6 p6' p7 p8 p8' p9 p9' pd pp:Pos}:PE X (.List [.Constant (.int 31) k0 p0,.UnaryOp .USub (.Constant (.int 1) k1 p1) p1',.Constant (.bool U6) k2 p2,.Constant (.bool U7) k3 p3,.Constant .none k4 p4,.Constant (.str "1") k5 p5,.Tuple [.Constant (.int 1) k6 p6] j6 p6',.BinOp (.Constant (.int 10) k7 p7) .Pow (.Constant (.int 29) k8 p8) p8',.List [.Constant (.int 1) k9 p9] p9',.Dict [] [] pd] pp) MK:=by unfold MK;refine @kG X _ _ _ ?_;refine @EH X _ _ _ _ _ _ ic ?_;refine @Up X _ _ _ _ _ _ (@EK X _ _ _ _ _ Am ic) ?_;refine @EH X _ _ _ _ _ _ wQ ?_;refine @EH X _ _ _ _ _ _ wQ ?_;refine @EH X _ _ _ _ _ _ Dk ?_;refine @EH X _ _ _ _ _ _ Aj ?_;refine @Ul X _ _ _ _ _ _ (@qC X _ _ _ _ (@EH X _ _ _ _ _ _ ic hZ)) ?_;refine @Uq X _ _ _ _ _ _ _ (@jM X _ _ _ _ _ _ _ wX ic ic) ?_;refine @Um X _ _ _ _ _ (@kG X _ _ _ (@EH X _ _ _ _ _ _ ic hZ)) ?_;exact @Uo X _ _ _ _ _ _ Hx hZ
theorem Sf {X:Cx}{x:Str}{e:Expr}{te:TE}(he:PE X e te)(hp:Av e)(hN:X.N.Nodup)(hi:X.N[8]?=My x)(hx:Loc X.env.scope x)(hf:X.fn x=U6\/X.env.scope.names.lookup x=My .local){k0 k1 k2 k3 k4 k5 k6 k7 k8 k9 j6}{p0 p1 p1' p2 p3 p4 p5 p6 p6' p7 p8 p8' p9 p9' pd pp pn ps pq:Pos}:PS X (.Assign [.Name x pn] (.Subscript (.List [.Constant (.int 31) k0 p0,.UnaryOp .USub (.Constant (.int 1) k1 p1) p1',.Constant (.bool U6) k2 p2,.Constant (.bool U7) k3 p3,.Constant .none k4 p4,.Constant (.str "1") k5 p5,.Tuple [.Constant (.int 1) k6 p6] j6 p6',.BinOp (.Constant (.int 10) k7 p7) .Pow (.Constant (.int 29) k8 p8) p8',.List [.Constant (.int 1) k9 p9] p9',.Dict [] [] pd] pp) e pq) ps) (lU (tOp (oP X.K) MK te) (iW 8)) :=
 @iY X _ 8 _ _ _ _ hN hi hx (@mq X _ _ _ _ _ _ kK (@Se X _ _ _ _ _ _ _ _ _ _ _ _ _ _ _ _ _ _ _ _ _ _ _ _ _ _ _) he hp) rfl hf
def gM1:DE->gJ Dt:=(g_ dIx (lQ (gP (gC (.int 5)) (gP (gC (.int 8)) gS))) (iM vD (gP (g_ lx (gT 1) (gC (.int 0))) gS)))
def gM2:DE->gJ Dt:=(g_ dIx (lQ (gP (gC (.int 8)) (gP (gC (.int 31)) gS))) (iM vD (gP (g_ lx (gT 1) (gC (.int 0))) gS)))
theorem NH (k:Nat):lx (gR k) (.int 0)=My (.bl (decide (k=0))):=by show My (Dt.bl ((k:Int)==((0:Nat):Int)))=_;rw[ma];rfl
theorem Qk (k:Nat)(x0:gJ Dt)(r:DE):∃ m:Nat,(2<=m/\m<=8)/\gM1 (x0::My (gR k)::r)=My (gR m):=by
 have q:=NH k;have i0:dIx (.lst [.int 5,.int 8]) (.int 0)=My (.int 5):=rfl;have i1:dIx (.lst [.int 5,.int 8]) (.int 1)=My (.int 8):=rfl;by_cases h:k=0
 ·rw[decide_eq_true h]at q;refine⟨8,by lia,?_⟩;generalize Dt.lst [.int 5,.int 8]=l,gR k=nk at *;simp[gM1,q,i1,gR]
 ·rw[decide_eq_false h]at q;refine⟨5,by lia,?_⟩;generalize gR k=nk at *;simp[gM1,q,gR]
theorem Ql (k:Nat)(x0:gJ Dt)(r:DE):∃ m:Nat,(0<m/\m<=31)/\gM2 (x0::My (gR k)::r)=My (gR m):=by
 have q:=NH k;have i0:dIx (.lst [.int 8,.int 31]) (.int 0)=My (.int 8):=rfl;have i1:dIx (.lst [.int 8,.int 31]) (.int 1)=My (.int 31):=rfl;by_cases h:k=0
 ·rw[decide_eq_true h]at q;refine⟨31,by lia,?_⟩;generalize gR k=nk at *;simp[gM2,q,gR]
 ·rw[decide_eq_false h]at q;refine⟨8,by lia,?_⟩;generalize gR k=nk at *;simp[gM2,q,gR]
theorem ch2:∀ m:Nat,ch (2,[(0,1)]) (2*m) 0 0=420 ^ (2*m)/\ch (2,[(0,1)]) (2*m) 0 1=0
 | 0=>⟨rfl,rfl⟩
 | m+1=>by
  obtain⟨h0,h1⟩:=ch2 m;have n0:nb [(0,1)] 0=[1]:=by decide +kernel
  have n1:nb [(0,1)] 1=[0]:=by decide +kernel
  have w0:wt (2,[(0,1)]) 0=420:=by decide +kernel
  have w1:wt (2,[(0,1)]) 1=420:=by decide +kernel
  have s0:∀ k,ch (2,[(0,1)]) (k+1) 0 0=420*ch (2,[(0,1)]) k 0 1:=λ k=>by have:=good2.qV k 0 0;rw[<-this];show((nb [(0,1)] 0).map λ j=>wt (2,[(0,1)]) j*ch (2,[(0,1)]) k 0 j).sum=_;rw[n0,List.map_singleton,w1];simp
  have s1:∀ k,ch (2,[(0,1)]) (k+1) 0 1=420*ch (2,[(0,1)]) k 0 0:=λ k=>by have:=good2.qV k 0 1;rw[<-this];show((nb [(0,1)] 1).map λ j=>wt (2,[(0,1)]) j*ch (2,[(0,1)]) k 0 j).sum=_;rw[n1,List.map_singleton,w0];simp
  have e:2*(m+1)=2*m+1+1:=by lia
  rw[e,s0,s1,s1,s0,h0,h1,eu,eu];exact⟨by rw[<-eh,dM,eh],by lia⟩
theorem PQ2:PQ (2,[(0,1)]) 30 0=[1,0]:=by obtain⟨h0,h1⟩:=ch2 15;have h0:ch (2,[(0,1)]) 30 0 0=420 ^ 30:=h0;have h1:ch (2,[(0,1)]) 30 0 1=0:=h1;show [fr (ch (2,[(0,1)]) 30 0 0) (420 ^ 30),fr (ch (2,[(0,1)]) 30 0 1) (420 ^ 30)]=_;rw[h0,h1,Fz (nP 30),rL]
theorem Qm:Good (3,[(0,1),(0,2),(1,2)]):=⟨by decide,by decide,by decide,by decide,wx (n:=3) (by decide) (by decide) (λ S h0 h v hv=>by
 have h1:S 1:=(h (0,1) (by simp)).mp h0;have h2:S 2:=(h (0,2) (by simp)).mp h0;rcases (show v=0\/v=1\/v=2 from by lia) with rfl | rfl | rfl
 ·exact h0
 ·exact h1
 ·exact h2),by decide,by simp⟩
theorem wy3:wy (3,[(0,1),(0,2),(1,2)]) 2 0 0=2:=by
 have e:adj (3,[(0,1),(0,2),(1,2)])=λ b j=>if (j,b)∈[(0,1),(0,2),(1,2)]\/(b,j)∈[(0,1),(0,2),(1,2)] then 1 else 0:=by funext b j;unfold adj;simp only[pL]
 show it 3 (adj (3,[(0,1),(0,2),(1,2)])) (λ _=>1) 2 0 0=2;rw[e];decide +kernel
theorem Qn:okX mh [.tup [.int 2,.tup [.tup [.int 0,.int 1]]],.int 0,.int 30]=My (.tup [.tup [.int 1,.int 1],.tup [.int 0,.int 1]]):=by
 show okX mh [h_ (2,[(0,1)]),gR 0,gR 30]=_;have a:sR (h_ (2,[(0,1)])) (gR 0) (gR 30) afX=.ok (.tup ((PQ (2,[(0,1)]) 30 0).map hV)):=by unfold sR xWP;rw[pS good2];dsimp only;rw[pT (w:=(2,[(0,1)])) (a:=0) (by decide)];dsimp only;rw[Bq (m:=30) (k:=30) (by decide)];rfl
 have c:mh [h_ (2,[(0,1)]),gR 0,gR 30]=My (sR (h_ (2,[(0,1)])) (gR 0) (gR 30) afX):=by have:∀ x y z:Dt,okW x=U6->kdB y=U6->kdB z=U6->mh [x,y,z]=My (sR x y z afX):=λ x y z h1 h2 h3=>ai ⟨h1,h2,h3⟩;exact this _ _ _ rfl rfl rfl
 unfold okX;rw[c,a,PQ2];rfl
theorem Sg:okX nB [.tup [.int 3,.tup [.tup [.int 0,.int 1],.tup [.int 0,.int 2],.tup [.int 1,.int 2]]],.int 0,.int 0,.int 2]=My (.int 2):=by
 show okX nB [h_ (3,[(0,1),(0,2),(1,2)]),gR 0,gR 0,gR 2]=_;have a:m9 (h_ (3,[(0,1),(0,2),(1,2)])) (gR 0) (gR 0) (gR 2) wyX=.ok (gR (wy (3,[(0,1),(0,2),(1,2)]) 2 0 0)):=by unfold m9 Bo xWP;rw[pS Qm];dsimp only;rw[pT (w:=(3,[(0,1),(0,2),(1,2)])) (a:=0) (by decide)];dsimp only;rw[Bq (m:=30) (k:=2) (by decide)];rfl
 have c:nB [h_ (3,[(0,1),(0,2),(1,2)]),gR 0,gR 0,gR 2]=My (m9 (h_ (3,[(0,1),(0,2),(1,2)])) (gR 0) (gR 0) (gR 2) wyX):=by have:∀ x y z u:Dt,okW x=U6->kdB y=U6->kdB z=U6->kdB u=U6->nB [x,y,z,u]=My (m9 x y z u wyX):=λ x y z u h1 h2 h3 h4=>ai ⟨h1,h2,h3,h4⟩;exact this _ _ _ _ rfl rfl rfl rfl
 unfold okX;rw[c,a,wy3];rfl
def hR:DE->gJ RD:=(kc (Cc (g_ lx (hG 3 (okX mh) (gP (iX (gP (gC (.int 2)) (gP (iX (gP (iX (gP (gC (.int 0)) (gP (gC (.int 1)) gS))) gS)) gS))) (gP (gC (.int 0)) (gP (gC (.int 30)) gS)))) (iX (gP (iX (gP (gC (.int 1)) (gP (gC (.int 1)) gS))) (gP (iX (gP (gC (.int 0)) (gP (gC (.int 1)) gS))) gS)))) (g_ lx (hG 4 (okX nB) (gP (iX (gP (gC (.int 3)) (gP (iX (gP (iX (gP (gC (.int 0)) (gP (gC (.int 1)) gS))) (gP (iX (gP (gC (.int 0)) (gP (gC (.int 2)) gS))) (gP (iX (gP (gC (.int 1)) (gP (gC (.int 2)) gS))) gS)))) gS))) (gP (gC (.int 0)) (gP (gC (.int 0)) (gP (gC (.int 2)) gS))))) (gC (.int 2)))))
theorem Si (δ:DE):hR δ=My (.rt (.bl U6)):=by have c:lx (.tup [.tup [.int 1,.int 1],.tup [.int 0,.int 1]]) (.tup [.tup [.int 1,.int 1],.tup [.int 0,.int 1]])=My (.bl U6):=rfl;have d:lx (.int 2) (.int 2)=My (.bl U6):=rfl;have a:=Qn;have b:=Sg;unfold hR;simp[a,b,c,d]
end L2
namespace K02
open PySem PySem.Spec PyProof.Rows L2 Zp
section
variable {P:Program}{w:World}{K:gK}{mg:gG}{base:Heap}
def Ur:Stmt->List Stmt
 | .For _ _ b _ _=>b
 | _=>[]
end
end K02
namespace K11
open PySem PySem.Spec PyProof.Rows L2 Zp
section
variable {P:Program}{w:World}{K:gK}{mg:gG}{base:Heap}
abbrev XL (P:Program)(w:World)(K:gK)(mg:gG)(base:Heap)(T:Txt K mg)(cdv:gL)(A:Around)(outer:List Env)(s:gM)(H:Hp)(E:XK):Cx:=(qt CX0 P w K mg base ["_law_script","_law_k","_law_pot_here","_law_web_here","_law_steps","_law_a","_law_b","_law_none","_law_far","_law_due","_law_lap","_law_told","_law_bent_here"] "law" (gY q_) T.yE.f cdv A outer s H E).nox
abbrev rq:List Stmt:=K02.Ur ((iU q_).headD q_)
def tk (K:gK)(j i:Nat):TS:=lU (jD kz [] E0 (g0 (iG 2) (g0 (tOp (KG K) (iG j) (tC (V.int 0))) i8))) (iW i)
def t1 (K:gK):TS:=lU (jD (ND K) [] E0 (g0 (iG 2) (g0 (tD K gM1) (g0 (tC (V.int 1)) i8)))) (iW 3)
def t2 (K:gK):TS:=lU (jD kz [] E0 (g0 (iG 2) (g0 (tD K gM2) i8))) (iW 4)
def tNn (K:gK):TS:=lU (jD (RS K) [] E0 (g0 (iG 2) (g0 (iG 3) i8))) (iW 7)
def tFa (K:gK):TS:=lU (tOp (oP K) MK (jD kz [] E0 (g0 (iG 2) (g0 (tC (V.int 10)) i8)))) (iW 8)
def tBn (K:gK):TS:=lU (jD (Kf K) [] E0 (g0 (iG 2) (g0 (iG 3) i8))) (iW 12)
section
variable (T:Txt K mg)(cdv:gL)(A:Around)(outer:List Env)(s:gM)(H:Hp)(E:XK)(hr:jI 7 (A.deeper (envOfC "law" (gY q_) s.heap.objs.size T.yE.f cdv)))
include hr
theorem Sj:∀ st,rq[0]?=My st->PS (XL P w K mg base T cdv A outer s H E) st (lU (jD Kc [] E0 (g0 (jD (EE K) [] E0 (g0 (iG 0) (g0 (iG 1) i8))) i8)) (iW 2)):=by intro st h;obtain rfl:=ao h;exact iY (i:=2) mD.nd rfl (Or.inl rfl) (pC T.sU (PY T) hr (gW (pC T.nZ (Mw T) hr (gW (pv 0) (gW (pv 1) hZ))) hZ))
theorem Sk:∀ st,rq[1]?=My st->PS (XL P w K mg base T cdv A outer s H E) st (t1 K):=by intro st h;obtain rfl:=ao h;exact iY (i:=3) mD.nd rfl (Or.inr rfl) (pC T.qc (P9 T) hr (gW (pv 2) (gW (jC (lZ (gQ hX (gQ hX gX))) (kN Bp T.Ae boot_int (gQ (sf (vU (ip hr)) (dv 1) hX) gX))) (gW ic hZ))))
theorem Sl:∀ st,rq[2]?=My st->PS (XL P w K mg base T cdv A outer s H E) st (t2 K):=by intro st h;obtain rfl:=ao h;exact iY (i:=4) mD.nd rfl (Or.inr rfl) (pC T.iJ (jL T) hr (gW (pv 2) (gW (jC (lZ (gQ hX (gQ hX gX))) (kN Bp T.Ae boot_int (gQ (sf (vU (ip hr)) (dv 1) hX) gX))) hZ)))
theorem Sm:∀ st,rq[3]?=My st->PS (XL P w K mg base T cdv A outer s H E) st (tk K 3 5):=by intro st h;obtain rfl:=ao h;exact iY (i:=5) mD.nd rfl (Or.inr rfl) (pC T.iJ (jL T) hr (gW (pv 2) (gW (mq xb (pv 3) ic (λ _ _=>rfl)) hZ)))
theorem Sn:∀ st,rq[4]?=My st->PS (XL P w K mg base T cdv A outer s H E) st (tk K 3 6):=by intro st h;obtain rfl:=ao h;exact iY (i:=6) mD.nd rfl (Or.inr rfl) (pC T.iJ (jL T) hr (gW (pv 2) (gW (mq xb (pv 3) ic (λ _ _=>rfl)) hZ)))
theorem Sq:∀ st,rq[5]?=My st->PS (XL P w K mg base T cdv A outer s H E) st (tNn K):=by intro st h;obtain rfl:=ao h;exact iY (i:=7) mD.nd rfl (Or.inr rfl) (pC T.kF (Di T) hr (gW (pv 2) (gW (pv 3) hZ)))
theorem Sr:∀ st,rq[6]?=My st->PS (XL P w K mg base T cdv A outer s H E) st (tFa K):=by intro st h;obtain rfl:=ao h;exact @Sf (XL P w K mg base T cdv A outer s H E) _ _ _ (pC T.iJ (jL T) hr (gW (pv 2) (gW ic hZ))) (λ _ _=>rfl) mD.nd rfl (Or.inr rfl) (.inl rfl) _ _ _ _ _ _ _ _ _ _ _ _ _ _ _ _ _ _ _ _ _ _ _ _ _ _ _ _ _ _
theorem Ss:∀ st,rq[7]?=My st->PS (XL P w K mg base T cdv A outer s H E) st (tDS K p7):=by intro st h;obtain rfl:=ao h;exact(jn (i:=9) mD.nd (lZ (gQ (dC T.qe (zr T) hr (gQ (dv 3) (gQ (dv 5) (gQ (dv 4) gX)))) (gQ (dC T.rl (BG T) hr (gQ (dv 3) (gQ (dv 5) (gQ (dv 6) (gQ (dv 4) gX))))) gX))))
theorem Su:∀ st,rq[8]?=My st->PS (XL P w K mg base T cdv A outer s H E) st (tDS K p8):=by intro st h;obtain rfl:=ao h;exact(pD bj rfl (jK T.jh (gQ hX gX)) (pgo 10) i9 (iq (Cf (i:=11) mD.nd rfl (csc ["_law_door"] ["_law_web_here","_law_a","_law_b","_law_steps"] [3,5,6,4]) (jK T.jh (gQ hX gX)) (λ _ _ _ _=>(pgo 0)) iO i9 (λ _ _ _ _=>j_) (λ _ _ _ _=>(dC T.jW (kC T) hr (gQ (dv 0) (gQ (dv 1) (gQ (dv 2) (gQ (dv 3) (gQ (dv 4) gX)))))))) (ik (om (jZ (DW (ip hr)) (iL (Ju hr.gd hr.units) T.JZ boot_repr (gQ (dv 11) gX)) (iL (Ju hr.gd hr.units) T.JZ boot_repr (gQ (dv 9) gX))) (ik (iQ tI)) jT))))
theorem Sv:∀ st,rq[9]?=My st->PS (XL P w K mg base T cdv A outer s H E) st (tBn K):=by intro st h;obtain rfl:=ao h;exact iY (i:=12) mD.nd rfl (Or.inr rfl) (pC T.ja (MH T) hr (gW (pv 2) (gW (pv 3) hZ)))
theorem Qo:∀ st,rq[10]?=My st->PS (XL P w K mg base T cdv A outer s H E) st (tDS K p10):=by intro st h;obtain rfl:=ao h;exact(Cf (i:=11) mD.nd rfl (csc ["_law_door"] ["_law_bent_here","_law_none","_law_far"] [12,7,8]) (jK T.jh (gQ hX gX)) (λ _ _ _ _=>(pgo 0)) iO i9 (λ _ _ _ _=>j_) (λ _ _ _ _=>(dC T.jW (kC T) hr (gQ (dv 0) (gQ (dv 1) (gQ (dv 2) (gQ (dv 2) (gQ (dv 3) gX))))))))
theorem Qp:∀ st,rq[11]?=My st->PS (XL P w K mg base T cdv A outer s H E) st (tDS K p11):=by intro st h;obtain rfl:=ao h;exact(om (yU (OA (kJ (lj (dC T.oK (yI T) hr (gQ (dv 12) gX)))) (K9 (jZ (Jj (ip hr)) (dv 11) (jt Ip (lZ (gQ qK gX)) hX))))) (ik (iQ tI)) jT)
theorem Qq:∀ st,rq[12]?=My st->PS (XL P w K mg base T cdv A outer s H E) st (tDS K p12):=by intro st h;obtain rfl:=ao h;exact(jn (i:=11) mD.nd (lZ (gQ (dC T.jW (kC T) hr (gQ hX (gQ (dv 3) (gQ (dv 7) (gQ (dv 6) (gQ (dv 8) gX)))))) (gQ (dC T.jW (kC T) hr (gQ hX (gQ (dv 3) (gQ (dv 7) (gQ (dv 6) (gQ (dv 8) gX)))))) (gQ (dC T.jW (kC T) hr (gQ hX (gQ (dv 3) (gQ (dv 5) (gQ (dv 7) (gQ (dv 8) gX)))))) gX)))))
theorem Qr:∀ st,rq[13]?=My st->PS (XL P w K mg base T cdv A outer s H E) st (tDS K p13):=by intro st h;obtain rfl:=ao h;exact(om (jZ (Jj (ip hr)) (dv 11) (jt Ip (lZ (gQ qK gX)) hX)) (ik (iQ tI)) jT)
theorem Qt:∀ st,rq[14]?=My st->PS (XL P w K mg base T cdv A outer s H E) st (tDS K p14):=by intro st h;obtain rfl:=ao h;exact(om (jZ (Jj (ip hr)) (lZ (gQ (dC T.jW (kC T) hr (gQ hX (gQ (dv 3) (gQ (dv 5) (gQ (dv 6) (gQ (dv 8) gX)))))) (gQ (dC T.jW (kC T) hr (gQ hX (gQ (dv 3) (gQ (dv 5) (gQ (dv 6) (gQ (dv 8) gX)))))) gX))) (jt Ip (lZ (gQ qK gX)) hX)) (ik (iQ tI)) jT)
theorem Sw:∀ st,(iU q_)[1]?=My st->PS (XL P w K mg base T cdv A outer s H E) st (tDS K hR):=by intro st h;obtain rfl:=ao h;exact(iQ (xy (sf (vU (ip hr)) (dCX T.wL (Af T) hr (gQ (jg (gQ hX (gQ (jg (gQ (jg (gQ hX (gQ hX gX))) gX)) gX))) (gQ hX (gQ hX gX)))) (jg (gQ (jg (gQ hX (gQ hX gX))) (gQ (jg (gQ hX (gQ hX gX))) gX)))) (zI (sf (vU (ip hr)) (dCX T.BB (De T) hr (gQ (jg (gQ hX (gQ (jg (gQ (jg (gQ hX (gQ hX gX))) (gQ (jg (gQ hX (gQ hX gX))) (gQ (jg (gQ hX (gQ hX gX))) gX)))) gX))) (gQ hX (gQ hX (gQ hX gX))))) hX))))
end
end
end K11
namespace L2
open PySem PySem.Spec PyProof.Rows Zp Qs
theorem Kl {f h R:DE->gJ RD}{δ δ':DE}(e:jc f h δ=My (.nx δ')):jc f (jc h R) δ=R δ':=by
 unfold jc at *;cases h1:f δ with
 | none=>rw[h1]at e;cases e
 | some r =>
  rw[h1]at e;cases r with
  | rt d=>cases e
  | nx δ1 =>rw[ak]at e ⊢;dsimp only at e ⊢;rw[e];rfl
def NI:DE->gJ RD:=jc p10 (jc p11 (jc p12 (jc p13 p14)))
theorem Good.Km {w:Web}(g:Good w){a b:Nat}(ha:a<w.1)(hb:b<w.1){x dn df:Dt}(hf:fit x=U6)(pl:nU w.1 dn=U7)(kd:kdB dn=U6)(nf:vb 30 df=U7)(kf:kdB df=U6)(x0 x1 x2 x4 x9 x10 x11:gJ Dt):∃ y11,NI [x0,x1,x2,My (h_ w),x4,My (gR a),My (gR b),My dn,My df,x9,x10,x11,My x]=My (.nx [x0,x1,x2,My (h_ w),x4,My (gR a),My (gR b),My dn,My df,x9,x10,y11,My x]):=by obtain⟨y,e1⟩:=Kj hf kd kf x0 x1 x2 (My (h_ w)) x4 (My (gR a)) (My (gR b)) x9 x10 x11;obtain⟨z,e2⟩:=g.Kk ha hb pl kd nf kf x0 x1 x2 x4 x9 x10 y (My x);exact⟨z,(Kl e1).trans e2⟩
end L2
namespace K11
open PySem PySem.Spec PyProof.Rows L2 Zp
theorem NJ {σ:L2.St}{v:V}(h:σ.length=13)(h0:σ[0]?=My (My v)):∃ x1 x2 x3 x4 x5 x6 x7 x8 x9 x10 x11 x12:gJ V,σ=[My v,x1,x2,x3,x4,x5,x6,x7,x8,x9,x10,x11,x12]:=by
 match σ,h with
 | [x0,x1,x2,x3,x4,x5,x6,x7,x8,x9,x10,x11,x12],_ =>cases h0;exact⟨_,_,_,_,_,_,_,_,_,_,_,_,rfl⟩
theorem But.same {p:Addr}{H0 H H':Hp}(b:But p H H')(s:g6 H0 H)(n:H0 p=Option.none):g6 H0 H':=λ c o e=>b c o (s c o e) (iP e n)
theorem But.text {p:Addr}{H H':Hp}{n:Int}(b:But p H H')(hp:H p=My (.lst [.int n])):kA H H':=⟨λ c xs e=>b c _ e (λ z=>by subst z;rw[hp]at e;cases e),λ c o u e=>b c _ e (λ z=>by subst z;rw[hp]at e;cases e)⟩
theorem But.trans {p:Addr}{H H1 H2:Hp}(a:But p H H1)(b:But p H1 H2):But p H H2:=λ c o e n=>b c o (a c o e n) n
section
variable {P:Program}{w:World}{K:gK}{mg:gG}{base:Heap}
theorem Qu {D:Ends}{σ:L2.St}{H:Hp}{p:Addr}{n:Int}(h2:σ[2]?=My (My (.ref p)))(hp:H p=My (.lst [.int n]))
  (h:∀ (u:V) (d:Dt) (n':Int) (H':Hp),vb 30 d=U7->kdB d=U6->Is K (hdP H' p) u d->H' p=My (.lst [.int n'])->But p H H'->D.nx (σ.set 8 (My u)) H'):tFa K D σ H:=by
 refine⟨1,rfl,by show 1<=sizeLine;decide,λ q1 h1=>?_⟩;have np1:q1≠p:=λ z=>by subst z;rw[hp]at h1;cases h1
 have hp1:upd H q1 (.tup [.int 1]) p=My (.lst [.int n]):=by rw[hU (aZ np1)];exact hp
 have b1:But p H (upd H q1 (.tup [.int 1])):=(But.refl p H).new h1;have t1:upd H q1 (.tup [.int 1]) q1=My (.tup [.int 1]):=gZ;generalize upd H q1 (.tup [.int 1])=H1 at *;refine⟨10,29,rfl,rfl,⟨by decide,by decide,by decide⟩,by show 1<=sizeLine;decide,λ q2 h2'=>?_⟩;have np2:q2≠p:=λ z=>by subst z;rw[hp1]at h2';cases h2'
 have s12:g6 H1 (upd H1 q2 (.lst [.int 1])):=g6.upd h2';have b2:But p H (upd H1 q2 (.lst [.int 1])):=b1.new (b1.none h2' np2);have hp2:=s12 _ _ hp1;have t2:=s12 _ _ t1;have l2:upd H1 q2 (.lst [.int 1]) q2=My (.lst [.int 1]):=gZ;generalize upd H1 q2 (.lst [.int 1])=H2 at *;intro q4 h4;have np4:q4≠p:=λ z=>by subst z;rw[hp2]at h4;cases h4
 have s24:g6 H2 (upd H2 q4 (.dK [])):=g6.upd h4;have b4:But p H (upd H2 q4 (.dK [])):=b2.new (b2.none h4 np4);have hp4:=s24 _ _ hp2;have t4:=s24 _ _ t2;have l4:=s24 _ _ l2;have d4:upd H2 q4 (.dK []) q4=My (.dK []):=gZ;generalize upd H2 q4 (.dK [])=H4 at *;refine⟨by show 10<=sizeLine;decide,λ q3 h3=>?_⟩;have np3:q3≠p:=λ z=>by subst z;rw[hp4]at h3;cases h3
 generalize hvs:[V.int 31,.int (-1),.bl U6,.bl U7,.non,.str "1",.ref q1,.int (10 ^ Int.toNat 29),.ref q2,.ref q4]=vs;have s23:g6 H4 (upd H4 q3 (.lst vs)):=g6.upd h3;have b3:But p H (upd H4 q3 (.lst vs)):=b4.new (b4.none h3 np3);have hp3:=s23 _ _ hp4;have t3:=s23 _ _ t4;have l3:=s23 _ _ l4;have d3:=s23 _ _ d4;have m3:upd H4 q3 (.lst vs) q3=My (.lst vs):=gZ;show jD kz [] E0 (g0 (iG 2) (g0 (tC (V.int 10)) i8)) _ (upd H4 q3 (.lst vs)) _;generalize upd H4 q3 (.lst vs)=H3 at *;refine⟨_,h2,p,n,10,rfl,hp3,by decide,by decide,?_⟩;obtain⟨j,hj,jl⟩:=Dh n (show 0<10 by decide);have hj:n % 10=(j:Int):=hj;rw[hj];have hp5:upd H3 p (.lst [.int (n / 10)]) p=My (.lst [.int (n / 10)]):=gZ;have b5:But p H (upd H3 p (.lst [.int (n / 10)])):=b3.sW;have t5:hdP (upd H3 p (.lst [.int (n / 10)])) p q1=My (.tup [.int 1]):=by rw[mY np1,hU np1];exact t3
 have l5:hdP (upd H3 p (.lst [.int (n / 10)])) p q2=My (.lst [.int 1]):=by rw[mY np2,hU np2];exact l3
 have d5:hdP (upd H3 p (.lst [.int (n / 10)])) p q4=My (.dK []):=by rw[mY np4,hU np4];exact d3
 have m5:upd H3 p (.lst [.int (n / 10)]) q3=My (.lst vs):=by rw[hU np3];exact m3
 generalize upd H3 p (.lst [.int (n / 10)])=H5 at *;have fin:∀ (u:V) (d:Dt),vs[j]?=My u->vb 30 d=U7->kdB d=U6->Is K (hdP H5 p) u d->oP K (.ref q3) (.int j) H5 (λ v H'=>iW 8 v σ H' λ σ' H''=>D.nx σ' H''):=λ u d e1 e2 e3 e4 =>⟨q3,vs,j,u,rfl,rfl,SqL.of m5,lJ e1,h u d _ H5 e2 e3 e4 hp5 b5⟩
 have big:(10:Int) ^ Int.toNat 29=100000000000000000000000000000:=by decide +kernel
 have cs:j=0\/j=1\/j=2\/j=3\/j=4\/j=5\/j=6\/j=7\/j=8\/j=9:=by lia
 rcases cs with rfl | rfl | rfl | rfl | rfl | rfl | rfl | rfl | rfl | rfl
 ·exact fin _ (.int 31) (by rw[<-hvs];rfl) rfl rfl (.int _)
 ·exact fin _ (.int (-1)) (by rw[<-hvs];rfl) rfl rfl (.int _)
 ·exact fin _ (.bl U6) (by rw[<-hvs];rfl) rfl rfl (.bl _)
 ·exact fin _ (.bl U7) (by rw[<-hvs];rfl) rfl rfl (.bl _)
 ·exact fin _ .non (by rw[<-hvs];rfl) rfl rfl .non
 ·exact fin _ (.str "1") (by rw[<-hvs];rfl) rfl rfl (.str _)
 ·exact fin _ (.tup [.int 1]) (by rw[<-hvs];rfl) rfl rfl (.tup (SqT.of t5) (.cons (.int _) .nil))
 ·exact fin _ (.int 100000000000000000000000000000) (by rw[<-hvs,big];rfl) rfl rfl (.int _)
 ·exact fin _ (.lst [.int 1]) (by rw[<-hvs];rfl) rfl rfl (.lst l5 (.cons (.int _) .nil))
 ·exact fin _ (.dct []) (by rw[<-hvs];rfl) rfl rfl (.dct (.inl d5))
def l9 (K:gK):TS:=jx (tBn K) (tDS K NI)
def l7 (K:gK):TS:=jx (tDS K p7) (jx (tDS K p8) (l9 K))
def l5 (K:gK):TS:=jx (tNn K) (jx (tFa K) (l7 K))
def lB (K:gK):TS:=jx (lU (jD Kc [] E0 (g0 (jD (EE K) [] E0 (g0 (iG 0) (g0 (iG 1) i8))) i8)) (iW 2)) (jx (t1 K) (jx (t2 K) (jx (tk K 3 5) (jx (tk K 3 6) (l5 K)))))
def lF (K:gK):TS:=Dp (BR (g0 (tCB P2 (g0 (tC (V.int 1)) (g0 (tCB PZ (g0 (tCB (Mx K) (g0 (iG 0) i8)) (g0 (tC (V.int 5)) i8))) i8))) i8)) (iW 1) (lB K)
def lA (K:gK):TS:=jx (lF K) (tDS K hR)
abbrev Nx (D:Ends)(H:Hp)(a0:Addr):Prop:=∀ σ' H',σ'.length=13->σ'[0]?=My (My (.ref a0))->g6 H H'->D.nx σ' H'
structure LS (K:gK)(H0:Hp)(p:Addr)(ww:Web)(dn df:Dt)(vw vn vf:V)(n:Int)(H:Hp):Prop where
 gw:Good ww
 iw:Is K H vw (h_ ww)
 pl:nU ww.1 dn=U7
 kd:kdB dn=U6
 nf:vb 30 df=U7
 kf:kdB df=U6
 iN:Is K (hdP H p) vn dn
 iF:Is K (hdP H p) vf df
 hp:H p=My (.lst [.int n])
 p0:H0 p=U5
 sm:g6 H0 H
section
variable {D:Ends}{H0 H H':Hp}{a0 p:Addr}{ww:Web}{dn df:Dt}{vw vn vf vw':V}{n n':Int}(L:LS K H0 p ww dn df vw vn vf n H)
include L
theorem LS.ext (s:g6 H H')(a:Is K H' vw' (h_ ww)):LS K H0 p ww dn df vw' vn vf n H':=⟨L.gw,a,L.pl,L.kd,L.nf,L.kf,L.iN.ext (rR λ b o e _=>s b o e),L.iF.ext (rR λ b o e _=>s b o e),s _ _ L.hp,L.p0,L.sm.trans s⟩
theorem Sx {a b:Nat}(ha:a<ww.1)(hb:b<ww.1){x1 x4 x9 x10 x11 x12:gJ V}(h:Nx D H0 a0):l9 K D [My (.ref a0),x1,My (.ref p),My vw,x4,My (iV a),My (iV b),My vn,My vf,x9,x10,x11,x12] H:=by refine⟨_,rfl,_,rfl,p,n,vw,ww,rfl,L.gw,L.iw,L.hp,λ u d n' H' hf iu hp' but=>?_⟩;have but:But p H H':=but;obtain⟨y11,e⟩:=L.gw.Km ha hb hf L.pl L.kd L.nf L.kf (My (.opq (.ref a0))) U5 U5 U5 U5 U5 U5;refine⟨_,_,stS (.opq _) (L2.stN (L2.stN (stS (L.iw.text (but.text L.hp) (imW ww)) (L2.stN (stS (.int _) (stS (.int _) (stS ((L.iN.ext (rR but)).ext (qY _ _)) (stS ((L.iF.ext (rR but)).ext (qY _ _)) (L2.stN (L2.stN (L2.stN (stS (iu.ext (qY _ _)) L2.stE)))))))))))),e,λ H2 s2 σ2 S2=>h σ2 H2 S2.len ?_ ((but.same L.sm L.p0).trans s2)⟩;obtain⟨v7,e7,i7⟩:=S2.at_ 0 _ rfl;rw[e7,i7.m_]
theorem Sy {a b st:Nat}(ha:a<ww.1)(hb:b<ww.1)(hs:st<=30){x1 x9 x10 x11 x12:gJ V}(h:Nx D H0 a0):l7 K D [My (.ref a0),x1,My (.ref p),My vw,My (iV st),My (iV a),My (iV b),My vn,My vf,x9,x10,x11,x12] H:=by refine⟨_,_,stS (.opq _) (L2.stN (stS (.opq _) (stS L.iw (stS (.int _) (stS (.int _) (stS (.int _) (stS (.opq _) (stS (.opq _) (L2.stN (L2.stN (L2.stN (L2.stN L2.stE)))))))))))),L.gw.Sb ha hb hs ..,λ H1 s1 σ1 S1=>⟨_,_,S1,L.gw.Sd ha hb hs ..,λ H2 s2 σ2 S2=>?_⟩⟩;clear S1;obtain⟨y0,r0,rfl,j0,R0⟩:=S2.inv;obtain⟨y1,r1,rfl,R1⟩:=R0.zq;obtain⟨y2,r2,rfl,j2,R2⟩:=R1.inv;obtain⟨y3,r3,rfl,j3,R3⟩:=R2.inv;obtain⟨y4,r4,rfl,j4,R4⟩:=R3.inv;obtain⟨y5,r5,rfl,j5,R5⟩:=R4.inv;obtain⟨y6,r6,rfl,j6,R6⟩:=R5.inv;obtain⟨y7,r7,rfl,j7,R7⟩:=R6.inv;obtain⟨y8,r8,rfl,j8,R8⟩:=R7.inv;obtain⟨y9,r9,rfl,j9,R9⟩:=R8.inv;obtain⟨y10,r10,rfl,j10,R10⟩:=R9.inv;obtain⟨y11,r11,rfl,j11,R11⟩:=R10.inv;obtain⟨y12,r12,rfl,R12⟩:=R11.zq;have e12:r12=[]:=d8 R12.len;subst e12;have:=j0.m_;subst this;have:=j2.m_;subst this;have:=j5.int_inv;subst this;have:=j6.int_inv;subst this;have:=j7.m_;subst this;have:=j8.m_;subst this;exact Sx (L.ext (s1.trans s2) j3) ha hb h
end
theorem NK {D:Ends}{σ:L2.St}{H:Hp}{p:Addr}{i j:Nat}{v:V}{ww:Web}{n:Int}(hg:Good ww)(h2:σ[2]?=My (My (.ref p)))(hj:σ[j]?=My (My v))(iw:Is K H v (h_ ww))(hp:H p=My (.lst [.int n]))
  (h:∀ (a:Nat) (n':Int),a<ww.1->D.nx (σ.set i (My (iV a))) (L2.upd H p (.lst [.int n']))):tk K j i D σ H:=by
 have wp:0<ww.1:=by have:=hg.two;lia
 have w8:=hg.mv;obtain⟨r,xs,hv,hr3,is3⟩:=iw.iI;obtain⟨v0,v1,hxs,j0,j1⟩:=is3.two;have hv0:=j0.int_inv;refine⟨_,h2,_,hj,r,_,_,v0,hv,rfl,hr3,by rw[hxs];rfl,p,n,ww.1,by rw[hv0];rfl,hp,by lia,by lia,?_⟩;obtain⟨a,ha,am⟩:=Dh n wp;rw[ha];exact h a _ am
theorem Sz {D:Ends}{H0 H:Hp}{a0 p:Addr}{ww:Web}{vw:V}{n:Int}{a b st:Nat}{x1 x7 x8 x9 x10 x11 x12:gJ V}(gw:Good ww)(ha:a<ww.1)(hb:b<ww.1)(hs:st<=30)(iw:Is K H vw (h_ ww))(sm:g6 H0 H)(p0:H0 p=U5)(hp:H p=My (.lst [.int n]))(h:Nx D H0 a0) :
  l5 K D [My (.ref a0),x1,My (.ref p),My vw,My (iV st),My (iV a),My (iV b),x7,x8,x9,x10,x11,x12] H:=by
 refine⟨_,rfl,_,rfl,p,n,vw,ww,rfl,gw,iw,hp,λ u d n1 H1 pl kd iu hp1 b1=>?_⟩;have b1:But p H H1:=b1;have iw1:=iw.text (b1.text hp) (imW _);refine Qu (K:=K) (p:=p) rfl hp1 λ u2 d2 n2 H2 nf kf iu2 hp2 b2=>?_;exact Sy (K:=K) ⟨gw,iw1.text (b2.text hp1) (imW _),pl,kd,nf,kf,iu.ext (rR b2),iu2,hp2,p0,(b1.trans b2).same sm p0⟩ ha hb hs h
theorem SA {D:Ends}{H H0:Hp}{a0:Addr}{ns:List Int}{i:Nat}{x2 x3 x4 x5 x6 x7 x8 x9 x10 x11 x12:gJ V}(hS:SqL K H a0 (ns.map V.int))(h63:ns.length<=63)(sm0:g6 H H0)
  (h:Nx D H a0):lB K D [My (.ref a0),My (iV i),x2,x3,x4,x5,x6,x7,x8,x9,x10,x11,x12] H0:=by
 refine⟨_,rfl,_,rfl,a0,ns,i,rfl,sm0.seq hS,h63,λ c=>⟨c,rfl,λ p n hp=>?_⟩⟩;have p0:H p=U5:=sm0.free hp;have sm1:g6 H (L2.upd H0 p (.lst [.int n])):=sm0.trans (g6.upd hp);have hp1:L2.upd H0 p (.lst [.int n]) p=My (.lst [.int n]):=gZ;obtain⟨mo,hmo,em⟩:=Qk i U5 [U5,U5,U5,U5,U5,U5,U5,U5,U5,U5,U5];show t1 K _ _ (L2.upd H0 p (.lst [.int n]));generalize L2.upd H0 p (.lst [.int n])=H1 at *;refine⟨_,rfl,_,_,L2.stN (stS (.int _) (L2.stN (L2.stN (L2.stN (L2.stN (L2.stN (L2.stN (L2.stN (L2.stN (L2.stN (L2.stN (L2.stN L2.stE)))))))))))),em,λ vm H2 s2 im=>?_⟩;have:=im.int_inv;subst this;refine⟨p,n,mo,1,rfl,hmo,aw _,s2 _ _ hp1,λ v H3 n3 ww gw _ iw hp3 but3=>?_⟩;have but3:But p H2 H3:=but3;have sm3:=but3.same (sm1.trans s2) p0;obtain⟨m2,hm2,em2⟩:=Ql i U5 [U5,U5,U5,U5,U5,U5,U5,U5,U5,U5,U5];refine⟨_,rfl,_,_,L2.stN (stS (.int _) (L2.stN (L2.stN (L2.stN (L2.stN (L2.stN (L2.stN (L2.stN (L2.stN (L2.stN (L2.stN (L2.stN L2.stE)))))))))))),em2,λ vm H4 s4 im=>?_⟩;have:=im.int_inv;subst this;refine⟨p,n3,m2,rfl,s4 _ _ hp3,by lia,by lia,?_⟩;obtain⟨st,hst,stm⟩:=Dh n3 hm2.1;rw[hst];have t5:kA H4 (L2.upd H4 p (.lst [.int (n3 / (m2:Int))])):=kA.upd (by rw[s4 _ _ hp3];trivial);have iw5:=(iw.ext s4).text t5 (imW ww);have sm5:g6 H (L2.upd H4 p (.lst [.int (n3 / (m2:Int))])):=jw (sm3.trans s4) p0;have hp5:L2.upd H4 p (.lst [.int (n3 / (m2:Int))]) p=My (.lst [.int (n3 / (m2:Int))]):=gZ;generalize n3 / (m2:Int)=n5 at *;show jx (tk K 3 5) _ _ _ (L2.upd H4 p (.lst [.int n5]));generalize L2.upd H4 p (.lst [.int n5])=H5 at *;refine NK gw rfl rfl iw5 hp5 λ a n6 ha=>?_;have t6:kA H5 (L2.upd H5 p (.lst [.int n6])):=kA.upd (by rw[hp5];trivial);have iw6:=iw5.text t6 (imW ww);have sm6:g6 H (L2.upd H5 p (.lst [.int n6])):=jw sm5 p0;have hp6:L2.upd H5 p (.lst [.int n6]) p=My (.lst [.int n6]):=gZ;generalize L2.upd H5 p (.lst [.int n6])=H6 at *;refine NK gw rfl rfl iw6 hp6 λ b n7 hb=>?_;have t7:kA H6 (L2.upd H6 p (.lst [.int n7])):=kA.upd (by rw[hp6];trivial);exact Sz gw ha hb (by lia) (iw6.text t7 (imW ww)) (jw sm6 p0) p0 gZ h
theorem Qv {D:Ends}{H:Hp}{σ:L2.St}{δ:DE}(S:Sat K H σ δ)(q:∀ H',D.rt (.bl U6) H'):tDS K hR D σ H:=⟨δ,_,S,Si δ,λ H2 s2 v i=>by have:=i.jY;subst this;exact q H2⟩
theorem SD {D:Ends}{H:Hp}{a0:Addr}{ns:List Int}(hS:SqL K H a0 (ns.map V.int))(h63:ns.length<=63)(q:∀ H',D.rt (.bl U6) H'):lA K D [My (.ref a0),U5,U5,U5,U5,U5,U5,U5,U5,U5,U5,U5,U5] H:=by
 refine⟨_,rfl,a0,_,rfl,.inl hS,_,_,rfl,_,_,rfl,_,rfl,?_,?_,?_⟩
 ·lia
 ·lia
 ·generalize (if (if (5:Int)<((ns.map V.int).length:Int) then (5:Int) else ((ns.map V.int).length:Int))>1 then (if (5:Int)<((ns.map V.int).length:Int) then (5:Int) else ((ns.map V.int).length:Int)) else 1)=N
  refine oN (lo:=0) (n:=N.toNat) (λ i σ' H'=>σ'.length=13/\σ'[0]?=My (My (.ref a0))/\g6 H H') ⟨rfl,rfl,g6.refl H⟩ ?_ ?_
  ·rintro i σ' H0 hi ⟨hl,h0,sm0⟩;obtain⟨x1,x2,x3,x4,x5,x6,x7,x8,x9,x10,x11,x12,rfl⟩:=NJ hl h0;rw[Int.zero_add];exact SA hS h63 sm0 λ σ' H' h1 h2 h3=>⟨h1,h2,h3⟩
  ·rintro σ' H' ⟨hl,h0,sm0⟩;obtain⟨x1,x2,x3,x4,x5,x6,x7,x8,x9,x10,x11,x12,rfl⟩:=NJ hl h0;have S:Sat K H' [My (V.ref a0),x1,x2,x3,x4,x5,x6,x7,x8,x9,x10,x11,x12] [U5,U5,U5,U5,U5,U5,U5,U5,U5,U5,U5,U5,U5]:=L2.stN (L2.stN (L2.stN (L2.stN (L2.stN (L2.stN (L2.stN (L2.stN (L2.stN (L2.stN (L2.stN (L2.stN (L2.stN L2.stE))))))))))));show tDS K hR D _ _;exact Qv S q
end
end K11
namespace L2
open PySem PySem.Spec PyProof.Rows Zp
theorem ls5 {P:List gL->Prop}(h:∀ a b c d e,P [a,b,c,d,e])(us:List gL)(e:us.length=5):P us:=lsS (k:=4) (λ a us e=>ls4 (P:=λ us=>P (a::us)) (h a) us e) us e
end L2
namespace K11
open PySem PySem.Spec PyProof.Rows L2 Zp
theorem ML {α:Type}:∀ l:List α,l.length=15->∃ s0 s1 s2 s3 s4 s5 s6 s7 s8 s9 s10 s11 s12 s13 s14,l=[s0,s1,s2,s3,s4,s5,s6,s7,s8,s9,s10,s11,s12,s13,s14]/\l[0]?=My s0/\l[1]?=My s1/\l[2]?=My s2/\l[3]?=My s3/\l[4]?=My s4/\l[5]?=My s5/\l[6]?=My s6/\l[7]?=My s7/\l[8]?=My s8/\l[9]?=My s9/\l[10]?=My s10/\l[11]?=My s11/\l[12]?=My s12/\l[13]?=My s13/\l[14]?=My s14
 | [s0,s1,s2,s3,s4,s5,s6,s7,s8,s9,s10,s11,s12,s13,s14],_=>⟨s0,s1,s2,s3,s4,s5,s6,s7,s8,s9,s10,s11,s12,s13,s14,rfl,rfl,rfl,rfl,rfl,rfl,rfl,rfl,rfl,rfl,rfl,rfl,rfl,rfl,rfl,rfl⟩
theorem two {α:Type}:∀ l:List α,l.length=2->∃ s0 s1,l=[s0,s1]/\l[0]?=My s0/\l[1]?=My s1
 | [s0,s1],_=>⟨s0,s1,rfl,rfl,rfl⟩
section
variable {P:Program}{w:World}{K:gK}{mg:gG}{base:Heap}
def FT (K:gK):Sp:=λ vs H Q _=>∃ (a:Addr) (ns:List Int),vs=[.ref a]/\SqL K H a (ns.map V.int)/\ns.length<=63/\∀ H',Q (.bl U6) H'
section
variable (T:Txt K mg)(cdv:gL)(A:Around)(outer:List Env)(s:gM)(H:Hp)(E:XK)(hr:jI 7 (A.deeper (envOfC "law" (gY q_) s.heap.objs.size T.yE.f cdv)))
include hr
theorem MM:PSs (XL P w K mg base T cdv A outer s H E) rq (lB K):=by obtain⟨s0,s1,s2,s3,s4,s5,s6,s7,s8,s9,s10,s11,s12,s13,s14,e,h0,h1,h2,h3,h4,h5,h6,h7,h8,h9,h10,h11,h12,h13,h14⟩:=ML rq rfl;rw[e];exact g9 (Sj T cdv A outer s H E hr s0 h0) (g9 (Sk T cdv A outer s H E hr s1 h1) (g9 (Sl T cdv A outer s H E hr s2 h2) (g9 (Sm T cdv A outer s H E hr s3 h3) (g9 (Sn T cdv A outer s H E hr s4 h4) (g9 (Sq T cdv A outer s H E hr s5 h5) (g9 (Sr T cdv A outer s H E hr s6 h6) (g9 (Ss T cdv A outer s H E hr s7 h7) (g9 (Su T cdv A outer s H E hr s8 h8) (g9 (Sv T cdv A outer s H E hr s9 h9) (iq (Qo T cdv A outer s H E hr s10 h10) (iq (Qp T cdv A outer s H E hr s11 h11) (iq (Qq T cdv A outer s H E hr s12 h12) (iq (Qr T cdv A outer s H E hr s13 h13) (ik (Qt T cdv A outer s H E hr s14 h14)))))))))))))))
theorem Qw:∀ st,(iU q_)[0]?=My st->PS (XL P w K mg base T cdv A outer s H E) st (lF K):=by intro st h;obtain rfl:=ao h;exact qA bj rfl (nD rfl T.jh (gW (kD (uL rfl) rfl T.JX boot_max (gW ic (gW (kD (uM rfl) rfl T.JW boot_min (gW (kD lX rfl T.rm cB (gW (pv 0) hZ)) (gW ic hZ))) hZ))) hZ)) (pgo 1) (MM T cdv A outer s H E hr)
theorem MN:PSs (XL P w K mg base T cdv A outer s H E) (iU q_) (lA K):=by obtain⟨s0,s1,e,h0,h1⟩:=two (iU q_) rfl;rw[e];exact g9 (Qw T cdv A outer s H E hr s0 h0) (ji (Sw T cdv A outer s H E hr s1 h1))
end
theorem Qx (T:Txt K mg):OkT P w base T.yE 8 (FT K):=by
 refine T.yE.F.ok mD (λ vs H Q E h=>?_) (λ cdv A outer s H vs Q E hr h=>?_)
 ·obtain⟨a,ns,rfl,_⟩:=h;rfl
 ·obtain⟨a0,ns,rfl,hS,h63,q⟩:=h;exact⟨lA K,PSs.nox (MN T cdv A outer s H E hr),SD hS h63 q⟩
end
end K11
end
namespace K11
open PySem PySem.Spec PyProof.Rows L2 Zp
theorem all_mk {l:PySem.W.OpenLaw}{w:World}{K:gK}{mg:gG}{fa:Addr}(T:Txt K mg)(hfa:mg "law"=My (.ref fa)):∃ fd:FuncData,(∀ (s:gM) (v:gL),BindsTo s fd ⟨[v],[]⟩ [("_law_script",v)])/\∀ base:Heap,K.In base->base.Ns mainGlobals mg->pg l.prog w K mg base CX0 8 fa fd ["_law_script"] (FT K):=by have e:=hfa.symm.trans T.yE.m;cases e;exact⟨_,λ s v=>.of_eq (T.yE.bb [v] rfl),λ _ _ _=>Qx T⟩
theorem walk {l:PySem.W.OpenLaw}{q:Program}{loose:List Str}{XP:(Str->gJ gL)->Heap->Prop}{YP:World->Heap->Prop}{d:DefRec}{K:Params->gK}(hn:l.most=My 63)(hdf:d.params.defaults=[])
  (hY:∀ (w:World) (h:Heap),YP w h->(K w.params).In h)
  (F:∀ (w:World) (mg:gG) (fa:Addr) (h:Heap),(K w.params).In h->h.Ns mainGlobals mg->mg d.name=My (.ref fa) ->
   ∃ fd:FuncData,(∀ (s:gM) (u:gL),BindsTo s fd ⟨[u],[]⟩ [("_law_script",u)])/\∀ base:Heap,(K w.params).In base->base.Ns mainGlobals mg->pg l.prog w (K w.params) mg base CX0 8 fa fd ["_law_script"] (FT (K w.params))) :
  PySem.W.WalkO q loose XP YP l.row.toRowW d [] (λ f vs=>PySem.call f vs) :=
 L2.ET (n:=63) (k:=8) (x:="_law_script") (CX:=λ _=>CX0) (sp:=λ w=>FT (K w.params)) hn (by decide) hdf ⟨rfl,by decide,by decide,rfl⟩ hY F (λ _ _ a ns hl _ hS=>⟨a,ns,rfl,hS,hl,λ _=>rfl⟩) λ _ _ _ _ _ z=>z
end K11
end Internal
open Internal
namespace PySem.W.Fast
theorem tw18074394179863774586:True:=trivial
theorem tw18442906770410413296:True:=trivial
theorem tw17981727349625902710:True:=trivial
theorem tw2902858544849033767:True:=trivial
theorem tw5072620501116829818:True:=trivial
theorem tw3314277413775007286:True:=trivial
theorem tw13773615615945866555:True:=trivial
theorem tw3237261058427693436:True:=trivial
theorem tw1182761194300565515:True:=trivial
theorem tw2499549252002317158:True:=trivial
theorem tw4811950285000835837:True:=trivial
theorem tw11508204629175489714:True:=trivial
theorem tw6147386061205598431:True:=trivial
theorem tw11004953496818411464:True:=trivial
theorem tw12432134274645220069:True:=trivial
theorem tw7751010394643277133:True:=trivial
theorem tw13760220964465925042:True:=trivial
theorem tw16864353326821022522:True:=trivial
theorem tw12027537243949091098:True:=trivial
theorem tw1449329533855948924:True:=trivial
theorem tw1833963159938848565:True:=trivial
theorem tw5408186096764379522:True:=trivial
theorem tw16764994999516516786:True:=trivial
theorem tw4823036391975069820:True:=trivial
theorem tw10763066599042305591:True:=trivial
theorem tw3892236329408707408:True:=trivial
theorem tw17936214080722777672:True:=trivial
theorem tw12709729235027154661:True:=trivial
theorem tw5619917614803107782:True:=trivial
theorem tw2345367447836646668:True:=trivial
theorem tw8852231276436611965:True:=trivial
theorem tw1491904517054092536:True:=trivial
theorem tw5605179269593457086:True:=trivial
theorem tw18300480377384016105:True:=trivial
theorem tw10375094592283778558:True:=trivial
theorem tw10544159468266886496:True:=trivial
theorem tw15312470899773851213:True:=trivial
theorem tw17440931721704573879:True:=trivial
theorem tw17117487434707512863:True:=trivial
theorem tw9251971200989238923:True:=trivial
theorem tw3534856192803974010:True:=trivial
theorem tw4450587301517850362:True:=trivial
theorem tw6533123719908300504:True:=trivial
theorem tw583693773730642964:True:=trivial
theorem tw11674644453919509217:True:=trivial
theorem tw14605771236922020250:True:=trivial
theorem tw15115525502240126026:True:=trivial
theorem tw10077704776237655506:True:=trivial
theorem tw13698142317827015676:True:=trivial
theorem tw2587950361270126119:True:=trivial
theorem tw13940843787610801299:True:=trivial
theorem tw3456323001089887958:True:=trivial
theorem tw9644840955915166972:True:=trivial
theorem tw10695351964194578470:True:=trivial
theorem tw1786261091833819969:True:=trivial
theorem tw16224571785776596216:True:=trivial
theorem tw8961023081764359488:True:=trivial
theorem tw11635220631992952291:True:=trivial
theorem tw3819820724656062314:True:=trivial
theorem tw9331423025784858360:True:=trivial
theorem tw17919096296673905631:True:=trivial
theorem tw2267835960265725941:True:=trivial
theorem tw15929091860953164770:True:=trivial
theorem tw10384927857661521793:True:=trivial
theorem tw7786050060921449595:True:=trivial
theorem tw16531612763240795400:True:=trivial
theorem tw6048019330076923261:True:=trivial
theorem tw15923103655804683294:True:=trivial
theorem tw18380934779123531882:True:=trivial
theorem tw5114247863597547555:True:=trivial
end PySem.W.Fast
open PySem PySem.W PyProof.Rows
set_option maxRecDepth 100000 in
set_option maxHeartbeats 0 in
theorem PySem.Challenge.cw_treewalkers_k11_behind_so_many_steps_holds : PySem.Challenge.rw_treewalkers_k11_behind_so_many_steps.Holds := by
 w_on;o_law;k_head;(case hw=>w_witness2)
 k_fill
 refine K11.walk (l:=PySem.Challenge.rw_treewalkers_k11_behind_so_many_steps) rfl rfl (λ w h Y=>PySem.W.kIn_of Y) ?F
 case F =>
  intro w mg fa h KX G hmg
  refine' K11.all_mk ⟨L2.fnT KX G ?_ ?_ ?_ ?_,L2.fnT KX G ?_ ?_ ?_ ?_,L2.fnT KX G ?_ ?_ ?_ ?_,L2.fnT KX G ?_ ?_ ?_ ?_,L2.fnT KX G ?_ ?_ ?_ ?_,L2.fnT KX G ?_ ?_ ?_ ?_,L2.fnT KX G ?_ ?_ ?_ ?_,L2.fnT KX G ?_ ?_ ?_ ?_,L2.fnT KX G ?_ ?_ ?_ ?_,L2.fnT KX G ?_ ?_ ?_ ?_,L2.fnT KX G ?_ ?_ ?_ ?_,L2.fnT KX G ?_ ?_ ?_ ?_,L2.fnT KX G ?_ ?_ ?_ ?_,L2.fnT KX G ?_ ?_ ?_ ?_,L2.fnT KX G ?_ ?_ ?_ ?_,L2.fnT KX G ?_ ?_ ?_ ?_,L2.fnT KX G ?_ ?_ ?_ ?_,L2.fnT KX G ?_ ?_ ?_ ?_,L2.fnT KX G ?_ ?_ ?_ ?_,L2.fnT KX G ?_ ?_ ?_ ?_,L2.fnT KX G ?_ ?_ ?_ ?_,L2.fnT KX G ?_ ?_ ?_ ?_,L2.fnT KX G ?_ ?_ ?_ ?_,L2.fnT KX G ?_ ?_ ?_ ?_,L2.fnT KX G ?_ ?_ ?_ ?_,L2.fnT KX G ?_ ?_ ?_ ?_,L2.fnT KX G ?_ ?_ ?_ ?_,L2.fnT KX G ?_ ?_ ?_ ?_,L2.fnT KX G ?_ ?_ ?_ ?_,L2.fnT KX G ?_ ?_ ?_ ?_,L2.fnT KX G ?_ ?_ ?_ ?_,L2.fnT KX G ?_ ?_ ?_ ?_,L2.fnT KX G ?_ ?_ ?_ ?_,L2.fnT KX G ?_ ?_ ?_ ?_,L2.fnT KX G ?_ ?_ ?_ ?_,L2.fnT KX G ?_ ?_ ?_ ?_ (hb:=λ _ _ _ _ _ _=>L2.ls5 λ _ _ _ _ _=>rfl),L2.fnT KX G ?_ ?_ ?_ ?_,L2.fnT KX G ?_ ?_ ?_ ?_,L2.fnT KX G ?_ ?_ ?_ ?_,PySem.W.mg_none_of KX G ?_,PySem.W.mg_none_of KX G ?_,PySem.W.mg_none_of KX G ?_,PySem.W.mg_none_of KX G ?_,PySem.W.mg_none_of KX G ?_,PySem.W.mg_none_of KX G ?_,PySem.W.mg_none_of KX G ?_,PySem.W.mg_none_of KX G ?_,PySem.W.mg_none_of KX G ?_,PySem.W.mg_none_of KX G ?_,PySem.W.mg_none_of KX G ?_,PySem.W.mg_none_of KX G ?_,PySem.W.mg_none_of KX G ?_,PySem.W.mg_none_of KX G ?_,PySem.W.mg_none_of KX G ?_,PySem.W.mg_none_of KX G ?_,PySem.W.mg_none_of KX G ?_,L2.ctP KX G ?_ ?_,L2.ctP KX G ?_ ?_,L2.ctI KX G ?_,L2.ctI KX G ?_,L2.ctI KX G ?_,⟨L2.wtT KX G ?_ ?_ ?_ ?_ ?_,L2.ecT KX G ?_ ⟨?_,?_,⟨?_,?_,?_,?_,?_,?_,?_,?_⟩⟩,L2.ecT KX G ?_ ⟨?_,?_,⟨?_,?_,?_,?_,?_,?_,?_,?_⟩⟩,L2.ecT KX G ?_ ⟨?_,?_,⟨?_,?_,?_,?_,?_,?_,?_,?_⟩⟩,L2.ecT KX G ?_ ⟨?_,?_,⟨?_,?_,?_,?_,?_,?_,?_,?_⟩⟩,L2.ecT KX G ?_ ⟨?_,?_,⟨?_,?_,?_,?_,?_,?_,?_,?_⟩⟩,L2.ecT KX G ?_ ⟨?_,?_,⟨?_,?_,?_,?_,?_,?_,?_,?_⟩⟩,L2.ecT KX G ?_ ⟨?_,?_,⟨?_,?_,?_,?_,?_,?_,?_,?_⟩⟩,L2.ecT KX G ?_ ⟨?_,?_,⟨?_,?_,?_,?_,?_,?_,?_,?_⟩⟩,L2.ecT KX G ?_ ⟨?_,?_,⟨?_,?_,?_,?_,?_,?_,?_,?_⟩⟩,L2.ecT KX G ?_ ⟨?_,?_,⟨?_,?_,?_,?_,?_,?_,?_,?_⟩⟩,L2.ecT KX G ?_ ⟨?_,?_,⟨?_,?_,?_,?_,?_,?_,?_,?_⟩⟩,L2.ecT KX G ?_ ⟨?_,?_,⟨?_,?_,?_,?_,?_,?_,?_,?_⟩⟩,L2.ecT KX G ?_ ⟨?_,?_,⟨?_,?_,?_,?_,?_,?_,?_,?_⟩⟩,L2.ecT KX G ?_ ⟨?_,?_,⟨?_,?_,?_,?_,?_,?_,?_,?_⟩⟩,L2.ecT KX G ?_ ⟨?_,?_,⟨?_,?_,?_,?_,?_,?_,?_,?_⟩⟩,?_⟩⟩ hmg
  any_goals k_is
  all_goals (try dsimp only [L2.ecT,L2.wtT])
  all_goals (try k_is)
  all_goals (try rfl)
  all_goals (try with_unfolding_all rfl)
  all_goals decide
