import PyProof.Rows.All
import Wide.All
import OpenK.AllK
import Wide.FinOn
import Lean
import PyProof.EqAt
import PyProof.EqKinds
import PyProof.TupleCall
import PyProof.NeKinds
import PyProof.WalkInts
import PyProof.SumWalkG
import KE.IntBitsLaws
import PyProof.FString
import PyProof.StrBlock
import KE.KxWritten
import KE.KxText
import PyProof.SliceStr2
import PyProof.TupleOfSeq
import PySem.Challenge.RW_treewalkers_k53_whole_ties
set_option Elab.async false
set_option linter.all false
set_option tactic.hygienic false
set_option maxRecDepth 100000
set_option exponentiation.threshold 10000
set_option maxHeartbeats 4000000
namespace Internal
open Option renaming some->kb,none->My
open Bool renaming true->V0,false->V1
open List renaming range->V2,replicate->V3
open Rat renaming divInt->V4
open PySem.SetTable renaming below->V5,runEnd->V6,bits->V7
noncomputable section
open PySem renaming wpAny_bind->aa,wpAny_pure->ah,wpAny_newObj_type->bL,wpAny_callSpecial?_slot->bS,wpAny_holding->bT,wpAny_call_entry->bV,wpAny_truthy_bool->bY,wpAny_setState_of->bZ,wpAny_field->b_,wpAny_mono->cv,wpAny_seqItems->cK,boot_len->cM,wpAny_standAt->cU,mem_of_lookup->c_,wpAny_setField_rec->dB,wpAny_passesOwn->dH,wpAny_attempt->eS,wpAny_comprehension_free->eT,wpAny_Call_Name_kw->eX,wpAny_pyIter_list->fc,wpAny_setField->fh,wpAny_rule->fu,wpAny_askSetting->fy,wpAny_onRaise->fJ,wpAny_updateSeq_pair->fK,wpAny_execs_nil->fN,wpAny_typeOf->fU,wpAny_assign_Name->gf
open Option renaming bind_some->af,map_some->cq,getD_some->eG,isSome_iff_exists->eO,isSome_map->gr,join_some->gG
open PySem.Heap renaming get?_push_of_some->ai,lt_size->aw,get?_push_size->aK,size_push->cn,get?_update_self->dE,get?_none_of_le->dO
open List renaming length_map->ak,mem_append_right->ao,mem_cons_of_mem->ar,map_cons->au,mem_cons_self->av,mem_range->ay,getD_eq_getElem?_getD->aA,size_toArray->aC,getElem?_map->aD,mem_map->aE,mem_cons->aG,getElem?_eq_getElem->aH,sum_cons->aI,map_congr_left->aL,mem_append_left->aM,mem_singleton->aN,length_append->aQ,map_map->aR,mem_filter->aT,nodup_iff_pairwise_ne->aV,length_cons->aW,getElem?_eq_some_iff->a_,mem_of_getElem?->bc,lookup_cons->bf,mem_append->bh,map_append->bp,nodup_cons->bq,getElem?_append_left->br,getElem?_eq_none->bu,nodup_range->bw,getElem?_range->bx,length_range->bA,getElem?_append_right->bE,getElem?_cons_succ->bG,append_nil->bH,getElem?_set_ne->bK,pairwise_map->bM,filterMap_cons->bW,getElem_of_mem->bX,getElem?_set_self->cu,length_singleton->cy,foldl_cons->cA,getElem?_cons_zero->cC,not_mem_nil->cE,length_nil->cP,pairwise_iff_getElem->cQ,drop_eq_getElem_cons->cR,filter_cons_of_pos->cW,filter_cons_of_neg->cX,replicate_succ->da,length_pos_iff->de,all_eq_true->dk,mem_filterMap->du,length_filter_le->dF,find?_cons->dJ,append_assoc->dP,length_take->dY,length_eq_zero_iff->d3,countP_cons->d4,of_mem_zip->ee,range_succ->eg,flatten_cons->eA,map_nil->eE,getElem_mem->eM,getElem?_take_of_lt->eP,forIn_cons->eW,pairwise_cons->eY,pairwise_singleton->e_,take_succ->fk,take_length->fx,drop_length->fA,any_eq_true->fB,any_toArray->fG,cons_append->fH,map_id->fM,countP_eq_zero->fT,zip_cons_cons->fW,forIn_nil->fZ,ext_getElem?->gy,mem_flatMap->gH,all_map->gK,nil_append->gM,length_zip->gN
open Nat renaming le_refl->aq,lt_of_lt_of_le->aB,ne_of_lt->aU,lt_irrefl->aX,zero_le->aZ,le_trans->bg,ne_of_gt->bR,le_of_lt_succ->cx,lt_of_le_of_lt->cB,not_lt_zero->dM,pow_le_pow_right->dS,le_add_right->dZ,le_of_lt->d8,not_lt->ed,lt_succ_of_lt->eD,lt_succ_self->eJ,le_of_eq->fg,le_of_not_lt->fv,mod_lt->fw,mul_le_mul->f9,le_succ->gm,lt_trichotomy->gu,max_eq_right->gD,min_eq_right->gE,mul_lt_mul''->gF,succ_pos->gJ,gcd_comm->gL,min_eq_left->gO,max_eq_left->gP
open Bool renaming false_ne_true->ax,false_eq_true->aS,eq_iff_iff->bj,and_eq_true->bJ,not_true->di,or_eq_true_iff->fS,and_false->fX,not_false->fY,not_eq_true'->gz,false_and->gS
open Option.some renaming inj->aF
open Classical renaming byContradiction->aJ
open List.Nodup renaming length_le_of_subset->aP
open Ne renaming symm->aY
open PySem.W renaming mg_none_of->ba,mg_of->eu,cellsFrom_some->fe
open Array renaming getD_eq_getD_getElem?->bC,getElem?_toList->bF,getElem?_eq_some_iff->cf,length_toList->cw,getElem?_eq_none->d9,toList_push->gw
open PySem.PassesOwn renaming never->bD
open PySem.AutoSeq1 renaming wpAny_loadPart'->bN
open PyProof.Rows renaming slot_tuple_getitem->bQ,callWith_type1->cF
open Int renaming emod_nonneg->bU,toNat_natCast->cH,emod_lt_of_pos->cS,natAbs_natCast->eZ,fdiv_eq_ediv_of_nonneg->fV,natAbs_mul->f7,natAbs_ediv_le_natAbs->f_
open PySem.List renaming filterMap_getElem?_range_length->cL
open PySem.Heap.SameBut renaming update->cN
open Rat renaming mul_inv_cancel->cT,natCast_add->cZ,intCast_natCast->df,intCast_le_intCast->dh,divInt_ofNat->dq,intCast_mul->eh,mkRat_self->fi,intCast_sub->fQ,natCast_pos->fR,divInt_eq_div->gA,mul_eq_zero->gQ,intCast_add->gR,mul_nonneg->gW,div_def->gX,pow_nonneg->gY
open PySem.F renaming plainAttrs_list->cY,slot_tuple_iterator_next->dz,called_set->d_,slot_list_append->eU,type_list_append->eV,slot_zip_next->fO
open PySem.Obj renaming data_mapFields->dw,isFreed_of_fields->ft,cls_mapFields->gx
open PyProof.Rows.KeyOrd renaming kle_refl->dN,kle_of_klt->dR,kle_trans->eK,kle_of_not_klt->fq
open Function renaming comp_def->dU
open List.Pairwise renaming imp_of_mem->dX
open PySem.SetTable renaming toList_insertAt->eQ
open PySem.Value renaming isInt_shape->fb
open PySem.Paired renaming length->fI,snoc->gq
open Prod renaming ext->gT
open List.Perm renaming refl->gU
abbrev ae:=@if_pos
abbrev ag:=@if_neg
abbrev bP:=@if_false
abbrev cG:=@congrArg
abbrev cJ:=@if_true
abbrev gZ:=PySem.Str->Option PySem.Value
abbrev g0:=PySem.Value->PySem.Shared->Prop
abbrev g6:=Option
abbrev g9:=PySem.W.Frag
abbrev g_:=PySem.Value
abbrev hE:=PySem.Shared
abbrev hG:=List (Nat×Nat)
abbrev hJ:=List (PySem.Addr×PySem.Obj)
local macro_rules | `(tactic| trivial)=>`(tactic| first | exact .inl rfl | exact .inr rfl | exact Or.inl rfl | exact Or.inr (Or.inl rfl) | exact Or.inr (Or.inr rfl) | exact Or.inr rfl | (show List.Nodup (_::_);decide +kernel) | exact⟨rfl,rfl,rfl,by decide +kernel,rfl,by decide +kernel,by decide +kernel⟩ | assumption)
namespace L2
open PySem PySem.Spec PyProof.Rows
abbrev Key:=Sum Int Str
def yK:Key->g_->Bool
 | .inl k,v=>Value.isInt k v
 | .inr x,v=>Value.isStrOf x v
def T9 (w:World):Key->Int
 | .inl k=>hashInt k
 | .inr x=>hashStr w x
theorem jR:∀ {k:Key} {v:g_},yK k v=V0->(∃ i t,k=Sum.inl i/\v=Value.int i t)\/(∃ x t,k=Sum.inr x/\v=Value.str x t)
 | .inl i,v,h=>by obtain⟨t,e⟩:=fb (k:=i) (v:=v) h;exact .inl ⟨i,t,rfl,e⟩
 | .inr x,v,h=>by obtain⟨t,e⟩:=Value.isStrOf_shape (x:=x) (v:=v) h;exact .inr ⟨x,t,rfl,e⟩
theorem Gg (i:Int)(t:Tok):yK (.inl i) (.int i t)=V0:=by simp[yK,Value.isInt]
theorem Gh (x:Str)(t:Tok):yK (.inr x) (.str x t)=V0:=by simp[yK,Value.isStrOf]
theorem OL (a b:Int):decide ((Sum.inl a:Key)=Sum.inl b)=(a==b):=by
 by_cases e:a=b
 ·subst e;simp
 ·have h:¬ (Sum.inl a:Key)=Sum.inl b:=λ q=>e (Sum.inl.inj q);rw[decide_eq_false h];exact(beq_eq_false_iff_ne.mpr e).symm
theorem OM (a b:Str):decide ((Sum.inr a:Key)=Sum.inr b)=decide (a=b):=by
 by_cases e:a=b
 ·subst e;simp
 ·have h:¬ (Sum.inr a:Key)=Sum.inr b:=λ q=>e (Sum.inr.inj q);rw[decide_eq_false h,decide_eq_false e]
theorem ON (a:Int)(b:Str):decide ((Sum.inl a:Key)=Sum.inr b)=V1:=decide_eq_false (λ q=>nomatch q)
theorem OO (a:Str)(b:Int):decide ((Sum.inr a:Key)=Sum.inl b)=V1:=decide_eq_false (λ q=>nomatch q)
def jY (prog:Program)(w:World):PySem.KeyKind prog w Key where
 is:=yK
 hash:=T9 w
 inj:=λ v a b ha hb=>by
  rcases jR ha with⟨i,t,rfl,rfl⟩ | ⟨x,t,rfl,rfl⟩
  ·rcases jR hb with⟨j,u,rfl,e⟩ | ⟨y,u,rfl,e⟩
   ·injection e with e1 _;rw[e1]
   ·exact nomatch e
  ·rcases jR hb with⟨j,u,rfl,e⟩ | ⟨y,u,rfl,e⟩
   ·exact nomatch e
   ·injection e with e1 _;rw[e1]
 byValue:=λ k v h=>by
  rcases jR h with⟨i,t,rfl,rfl⟩ | ⟨x,t,rfl,rfl⟩<;>rfl
 pyHash:=λ hv h=>by
  rcases jR hv with⟨i,t,rfl,rfl⟩ | ⟨x,t,rfl,rfl⟩
  ·exact wpAny_pyHash_int h
  ·exact wpAny_pyHash_str h
 eqBool:=λ hu hv h=>by
  rcases jR hu with⟨i,t,rfl,rfl⟩ | ⟨x,t,rfl,rfl⟩
  ·rcases jR hv with⟨j,u,rfl,rfl⟩ | ⟨y,u,rfl,rfl⟩
   ·rw[OL]at h;exact wpAny_eqBool_int h
   ·rw[ON]at h;exact SeqAt.EqAt.int_str i t y u _ _ _ _ h
  ·rcases jR hv with⟨j,u,rfl,rfl⟩ | ⟨y,u,rfl,rfl⟩
   ·rw[OO]at h;exact SeqAt.EqAt.str_int x t j u _ _ _ _ h
   ·rw[OM]at h;exact wpAny_eqBool_str h
 «strs»:=λ k x t v h=>by
  rcases jR h with⟨i,u,rfl,e⟩ | ⟨y,u,rfl,e⟩
  ·exact nomatch e
  ·injection e with e1 _
   subst e1
   cases v<;>rfl
theorem A9 (prog:Program)(w:World)(i:Int)(t:Tok):(jY prog w).is (.inl i) (.int i t)=V0:=Gg i t
theorem A_ (prog:Program)(w:World)(x:Str)(t:Tok):(jY prog w).is (.inr x) (.str x t)=V0:=Gh x t
inductive V where
 | non | bl (b:Bool) | int (i:Int) | str (x:Str) | byt (b:Array UInt8) | flt (b:UInt64) | ref (a:Addr) | ty (n:String)
 deriving DecidableEq
def RelV:V->g_->Prop
 | .non,u=>u=Value.none
 | .bl b,u=>u=Value.bool b
 | .int i,u=>∃ t,u=Value.int i t
 | .str x,u=>∃ t,u=Value.str x t
 | .byt b,u=>∃ t,u=Value.bytes b t
 | .flt b,u=>∃ t,u=Value.float b t
 | .ref a,u=>u=Value.ref a
 | .ty n,u=>u=Value.type n
abbrev Vals:List V->List g_->Prop:=Paired RelV
theorem Vals.length {xs:List V}{us:List g_}(r:Vals xs us):xs.length=us.length:=fI r
theorem Vals.get:∀ {xs:List V} {us:List g_} {i:Nat} {x:V},Vals xs us->xs[i]?=kb x->∃ u,us[i]?=kb u/\RelV x u
 | _,_,_,_,.nil,e=>by simp at e
 | _,_,0,_,.cons r _,e=>by simp at e;subst e;exact⟨_,rfl,r⟩
 | _,_,i+1,x,.cons _ t,e=>by obtain⟨u,h1,h2⟩:=Vals.get (i:=i) (x:=x) t (by simpa using e);exact⟨u,by simpa using h1,h2⟩
theorem Vals.set {x:V}{u:g_}(r:RelV x u):∀ {xs:List V} {us:List g_} (i:Nat),Vals xs us->Vals (xs.set i x) (us.set i u)
 | _,_,_,.nil=>.nil
 | _,_,0,.cons _ t=>.cons r t
 | _,_,i+1,.cons q t=>.cons q (Vals.set r i t)
theorem Vals.append:∀ {xs ys:List V} {us ws:List g_},Vals xs us->Vals ys ws->Vals (xs++ys) (us++ws)
 | _,_,_,_,.nil,s=>s
 | _,_,_,_,.cons r t,s=>.cons r (Vals.append t s)
theorem Vals.take:∀ {xs:List V} {us:List g_} (n:Nat),Vals xs us->Vals (xs.take n) (us.take n)
 | _,_,0,_=>.nil
 | _,_,_+1,.nil=>.nil
 | _,_,n+1,.cons r t=>.cons r (Vals.take n t)
theorem Vals.drop:∀ {xs:List V} {us:List g_} (n:Nat),Vals xs us->Vals (xs.drop n) (us.drop n)
 | _,_,0,r=>r
 | _,_,_+1,.nil=>.nil
 | _,_,n+1,.cons _ t=>Vals.drop n t
def yj:g6 V->g6 g_->Prop
 | some v,kb u=>RelV v u
 | none,My=>True
 | _,_=>False
def KV {κ:Type}:List (κ×V)->List (κ×g_)->Prop:=Paired λ(p:κ×V) (q:κ×g_)=>p.1=q.1/\RelV p.2 q.2
def kV:Key->V
 | .inl i=>.int i
 | .inr x=>.str x
inductive HO where
 | lst (xs:List V)
 | tup (xs:List V)
 | dK (kvs:List (Key×V)) | dT (kvs:List (List Key×V))
 | set (S:Int->Bool) (n:Nat)
 | ins (C dx:Addr) (fs:List (Str×V))
 | own (x:Addr)
 | xd (fs:List (Str×V))
 | met (f x:Addr)
 | rng (lo hi:Int)
 | frz (o:Obj) (u:HO)
 | tbl (ps:Array g_)
 | ext (φ:Heap->Prop)
abbrev Hp:=Addr->g6 HO
def upd (H:Hp)(a:Addr)(o:HO):Hp:=λ b=>if b=a then kb o else H b
theorem ir {H:Hp}{a:Addr}{o:HO}:upd H a o a=kb o:=by unfold upd;rw[ae rfl]
theorem iI {H:Hp}{a b:Addr}{o:HO}(h:b≠a):upd H a o b=H b:=by unfold upd;rw[ag h]
theorem Ll {H:Hp}{a:Addr}{o u:HO}:upd (upd H a o) a u=upd H a u:=by funext b;unfold upd;split<;>rfl
theorem Rr {H:Hp}{a b:Addr}{o u:HO}(h:H a=kb o)(h':H b=kb u)(d:o≠u):a≠b:=by intro e;subst e;rw[h]at h';exact d (aF h')
theorem iU {H:Hp}{a b:Addr}{o:HO}(h:H a=kb o)(h':H b=My):a≠b:=by intro e;subst e;rw[h]at h';cases h'
section
variable (P:Program)(w:World)
def jO (H:Hp)(h:Heap)(a:Addr):HO->Prop
 | .lst xs=>xs.length<=sizeLine/\∃ (its:List g_) (n:Nat),Vals xs its/\h.get? a=kb {cls:=.type "list",data:=.seq its.toArray n}
 | .tup xs=>(xs.length<=sizeLine/\∃ o,h.get? a=kb o/\o.dict=My)/\∃ its:List g_,Vals xs its/\IsTup h a its.toArray
 | .dK kvs=>kvs.length<=sizeLine/\(a==sysModules)=V1/\∃ vs,KV kvs vs/\h.DictOf (jY P w) a vs
 | .dT kvs=>kvs.length<=sizeLine/\(a==sysModules)=V1/\∃ xs:List (List Key×Addr×g_),
   Paired (λ(p:List Key×V) (q:List Key×Addr×g_)=>p.1=q.1/\H q.2.1=kb (.tup (p.1.map kV))/\RelV p.2 q.2.2) kvs xs /\
   ∃ o es ep,h.get? a=kb o/\o.ExactDict/\o.data=.dict es ep/\es.toList=xs.map (entryOfKey (tupleKind (jY P w)))/\(xs.map (·.1)).Nodup
 | .set S n=>h.SetOf (intKind P w) a S n
 | .ins C dx fs=>H dx=kb (.own a)/\fs.length<=1000/\dx≠a/\h.get? a=kb (PySem.W.instObj C dx) /\
   ∃ mA,h.Ns1 dx mA/\(∀ f,yj (fs.lookup f) (mA f))/\PySem.Within mA (fs.map (·.1))
 | .own _=>∃ o,h.get? a=kb o
 | .xd fs=>∃ mA,h.Ns1 a mA/\∀ f,yj (fs.lookup f) (mA f)
 | .rng lo hi=>∃ t u v,h.get? a=kb {cls:=.type "range",data:=.fields #[.int lo t,.int hi u,.int 1 v]}
 | .frz o u=>h.get? a=kb o/\jO H h a u
 | .tbl ps=>h.get? a=kb {cls:=.none,data:=.fields ps}
 | .met f x=>h.get? a=kb (PySem.W.methodObj (.ref f) (.ref x))
 | .ext φ=>φ h/\(∃ o,h.get? a=kb o)/\∀ h1 h2:Heap,φ h1->(∀ o,h1.get? a=kb o->h2.get? a=kb o)->φ h2
def HOk (H:Hp)(h:Heap):Prop:=∀ a o,H a=kb o->jO P w H h a o
end
section
variable {P:Program}{w:World}{H H':Hp}{h h':Heap}{a:Addr}{o:HO}
theorem jO.lt (x:jO P w H h a o):a<h.objs.size:=by
 cases o with
 | lst xs=>obtain⟨_,_,_,_,e⟩:=x;exact aw e
 | tup xs=>obtain⟨_,_,_,p⟩:=x;exact p.lt
 | dK kvs=>obtain⟨_,_,_,_,o,_,_,e,_⟩:=x;exact aw e
 | dT kvs=>obtain⟨_,_,_,_,o,_,_,e,_⟩:=x;exact aw e
 | set S n=>obtain⟨o,_,_,_,e,_⟩:=x;exact aw e
 | ins C dx fs=>obtain⟨_,_,_,e,_⟩:=x;exact aw e
 | own y=>obtain⟨_,e⟩:=x;exact aw e
 | xd fs=>obtain⟨_,⟨_,_,_,e,_⟩,_⟩:=x;exact aw e
 | rng lo hi=>obtain⟨_,_,_,e⟩:=x;exact aw e
 | frz ob u=>obtain⟨e,_⟩:=x;exact aw e
 | tbl ps=>exact aw (show h.get? a=kb _ from x)
 | met f y=>exact aw (show h.get? a=kb _ from x)
 | ext φ=>obtain⟨_,⟨_,e⟩,_⟩:=x;exact aw e
theorem Paired.Lm {α β:Type}{F G:α->β->Prop}:∀ {l₁:List α} {l₂:List β},Paired F l₁ l₂->(∀ a b,F a b->G a b)->Paired G l₁ l₂
 | _,_,.nil,_=>.nil
 | _,_,.cons r t,f=>.cons (f _ _ r) (Paired.Lm t f)
theorem Paired.imp' {α β:Type}{F G:α->β->Prop}(f:∀ a b,F a b->G a b){l₁:List α}{l₂:List β}(r:Paired F l₁ l₂):Paired G l₁ l₂:=Paired.Lm r f
theorem jO.vZ (x:jO P w H h a o)(k:∀ b u,(b=a\/H b=kb (.own a))->h.get? b=kb u->h'.get? b=kb u)
  (ho:∀ b,H b=kb (.own a)->H' b=kb (.own a)) (ht:∀ b xs,H b=kb (.tup xs)->H' b=kb (.tup xs)):jO P w H' h' a o:=by
 induction o with
 | lst xs=>obtain⟨z,its,n,r,e⟩:=x;exact⟨z,its,n,r,k _ _ (.inl rfl) e⟩
 | tup xs=>obtain⟨⟨z,o2,e2,d2⟩,its,r,ob,e,c⟩:=x;exact⟨⟨z,o2,k _ _ (.inl rfl) e2,d2⟩,its,r,ob,k _ _ (.inl rfl) e,c⟩
 | dK kvs=>obtain⟨z,y,vs,r,ob,es,ep,e,c⟩:=x;exact⟨z,y,vs,r,ob,es,ep,k _ _ (.inl rfl) e,c⟩
 | dT kvs =>obtain⟨z,y,xs,r,ob,es,ep,e,c⟩:=x;exact⟨z,y,xs,Paired.Lm r λ p q z=>⟨z.1,ht _ _ z.2.1,z.2.2⟩,ob,es,ep,k _ _ (.inl rfl) e,c⟩
 | set S n=>obtain⟨ob,es,ep,t,e,c⟩:=x;exact⟨ob,es,ep,t,k _ _ (.inl rfl) e,c⟩
 | ins C dx fs =>obtain⟨d,z,ne,e,mA,⟨od,es,ep,e2,c⟩,r⟩:=x;exact⟨ho _ d,z,ne,k _ _ (.inl rfl) e,mA,⟨od,es,ep,k _ _ (.inr d) e2,c⟩,r⟩
 | own y=>obtain⟨ob,e⟩:=x;exact⟨ob,k _ _ (.inl rfl) e⟩
 | xd fs=>obtain⟨mA,⟨od,es,ep,e,c⟩,r⟩:=x;exact⟨mA,⟨od,es,ep,k _ _ (.inl rfl) e,c⟩,r⟩
 | rng lo hi=>obtain⟨t,u,v,e⟩:=x;exact⟨t,u,v,k _ _ (.inl rfl) e⟩
 | frz ob u ih=>obtain⟨e,q⟩:=x;exact⟨k _ _ (.inl rfl) e,ih q⟩
 | tbl ps =>have e:h.get? a=kb {cls:=.none,data:=.fields ps}:=x;show h'.get? a=kb {cls:=.none,data:=.fields ps};exact k a _ (.inl rfl) e
 | met f y =>have e:h.get? a=kb (PySem.W.methodObj (.ref f) (.ref y)):=x;show h'.get? a=kb (PySem.W.methodObj (.ref f) (.ref y));exact k a _ (.inl rfl) e
 | ext φ=>obtain⟨p,⟨o,e⟩,st⟩:=x;exact⟨st _ _ p λ o q=>k _ _ (.inl rfl) q,⟨o,k _ _ (.inl rfl) e⟩,st⟩
theorem HOk.lt (x:HOk P w H h)(e:H a=kb o):a<h.objs.size:=(x a o e).lt
theorem HOk.fresh (x:HOk P w H h)(e:h.objs.size<=a):H a=My:=by
 cases q:H a with
 | none=>rfl
 | some u=>exact absurd (aB (x.lt q) e) (aX _)
theorem HOk.kept (x:HOk P w H h)(k:∀ b u,h.get? b=kb u->h'.get? b=kb u):HOk P w H h':=λ a o e =>(x a o e).vZ (λ b u _ q=>k b u q) (λ _ q=>q) λ _ _ q=>q
theorem HOk.laid (x:HOk P w H h)(k:∀ b u,h.get? b=kb u->h'.get? b=kb u)(hp:h.objs.size<=a)(new:jO P w (upd H a o) h' a o):HOk P w (upd H a o) h':=λ b u e=>by
 have hn:=x.fresh hp;by_cases hb:b=a
 ·subst hb;rw[ir]at e;cases e;exact new
 ·rw[iI hb]at e;exact(x b u e).vZ (λ c v _ q=>k c v q) (λ c q=>by rw[iI (iU q hn)];exact q) λ c xs q=>by rw[iI (iU q hn)];exact q
end
def Rd (H:Hp)(a:Addr)(u:HO):Prop:=H a=kb u\/∃ o,H a=kb (.frz o u)
theorem Rd.ok {P:Program}{w:World}{H:Hp}{h:Heap}{a:Addr}{u:HO}(r:Rd H a u)(x:HOk P w H h):jO P w H h a u:=by
 rcases r with r | ⟨o,r⟩
 ·exact x a u r
 ·obtain⟨_,q⟩:=x a _ r;exact q
def Mut:g6 HO->Prop
 | some (.lst _)=>True
 | some (.dK _)=>True
 | some (.dT _)=>True
 | some (.set _ _)=>True
 | some (.ins _ _ _)=>True
 | some (.ext _)=>True
 | _=>False
section
variable {P:Program}{w:World}{H:Hp}{h h':Heap}{x e:Addr}{o':HO}
theorem HOk.write (ok:HOk P w H h)(mu:Mut (H x))(he:e=x\/H e=kb (.own x))(k:∀ b u,b≠e->h.get? b=kb u->h'.get? b=kb u)(heo:∃ u,h'.get? e=kb u)
  (new:jO P w (upd H x o') h' x o'):HOk P w (upd H x o') h':=λ b u q=>by
 have nown:∀ c y,H c=kb (.own y)->c≠x:=λ c y r z=>by subst z;rw[r]at mu;exact mu
 have ntup:∀ c xs,H c=kb (.tup xs)->c≠x:=λ c xs r z=>by subst z;rw[r]at mu;exact mu
 by_cases hb:b=x
 ·subst hb;rw[ir]at q;cases q;exact new
 ·rw[iI hb]at q
  by_cases hbe:b=e
  ·have q':H b=kb (.own x):=by
    rcases he with z | z
    ·exact absurd (hbe.trans z) hb
    ·rw[hbe];exact z
   rw[q]at q';cases q';obtain⟨v,hv⟩:=heo;exact⟨v,by rw[hbe];exact hv⟩
  ·refine(ok b u q).vZ (λ c v hc r=>k c v ?_ r) (λ c r=>by rw[iI (nown c b r)];exact r) λ c xs r=>by rw[iI (ntup c xs r)];exact r
   rcases hc with rfl | hc
   ·exact hbe
   ·rintro rfl
    rcases he with z | z
    ·exact nown c b hc z
    ·rw[hc]at z;cases z;exact hb rfl
end
structure Un (fs ex:List Addr)(H H':Hp)(h h':Heap):Prop where
 keep:∀ b o,h.get? b=kb o->H b=My->b∉fs->b∉ex->h'.get? b=kb o
 slot:∀ b o,h.get? b=kb o->H b=My->b∈fs->b∉ex->∃ sl,h'.get? b=kb {o with slots:=sl}
 free:∀ b o,h.get? b=kb o->H b=My->b∉ex->H' b=My
 there:∀ b o,h.get? b=kb o->b∉ex->∃ o',h'.get? b=kb o'
 pJ:∀ b xs,H b=kb (.tup xs)->H' b=kb (.tup xs)
 pK:∀ b o u,H b=kb (.frz o u)->H' b=kb (.frz o u)
 tP:∀ b ps,H b=kb (.tbl ps)->∃ more,H' b=kb (.tbl (ps++more))
section
variable {fs fs' ex ex':List Addr}{H H1 H2:Hp}{h h1 h2 h':Heap}{a x e:Addr}{o:HO}
theorem Un.any (u:Un fs ex H H1 h h1){b:Addr}{ob:Obj}(q:h.get? b=kb ob)(n:H b=My)(hx:b∉ex):∃ sl,h1.get? b=kb {ob with slots:=sl}:=by
 by_cases hb:b∈fs
 ·exact u.slot b ob q n hb hx
 ·exact⟨ob.slots,u.keep b ob q n hb hx⟩
theorem Un.kept (k:∀ b u,h.get? b=kb u->h'.get? b=kb u):Un fs ex H H h h' :=
 ⟨λ b ob q _ _ _=>k b ob q,λ b ob q _ _ _=>⟨ob.slots,k b ob q⟩,λ _ _ _ n _=>n,λ b ob q _=>⟨ob,k b ob q⟩,λ _ _ q=>q,λ _ _ _ q=>q,λ _ ps q=>⟨#[],by rw[q];simp⟩⟩
theorem Un.refl:Un fs ex H H h h:=Un.kept λ _ _ q=>q
theorem Un.laid (k:∀ b u,h.get? b=kb u->h'.get? b=kb u)(hp:h.objs.size<=a)(hn:H a=My):Un fs ex H (upd H a o) h h' where
 keep:=λ b u q _ _ _=>k b u q
 slot:=λ b u q _ _ _=>⟨u.slots,k b u q⟩
 free:=λ b u q n _=>by rw[iI (aU (aB (aw q) hp))];exact n
 there:=λ b u q _=>⟨u,k b u q⟩
 pJ:=λ b xs q=>by rw[iI (iU q hn)];exact q
 pK:=λ b u xs q=>by rw[iI (iU q hn)];exact q
 tP:=λ b ps q=>⟨#[],by rw[iI (iU q hn),q];simp⟩
theorem Un.write (mu:Mut (H x))(he:e=x\/H e=kb (.own x))(k:∀ b u,b≠e->h.get? b=kb u->h'.get? b=kb u)(heo:∃ u,h'.get? e=kb u):Un fs ex H (upd H x o) h h':=by
 have hx:∀ b,H b=My->b≠x:=λ b n z=>by subst z;rw[n]at mu;exact mu
 have hb:∀ b,H b=My->b≠e:=λ b n z=>by
  subst z;rcases he with r | r
  ·exact hx b n r
  ·rw[n]at r;cases r
 have hm:∀ b u,H b=kb u->¬ Mut (kb u)->b≠x:=λ b u q nm z=>by subst z;rw[q]at mu;exact nm mu
 refine⟨λ b u q n _ _=>k b u (hb b n) q,λ b u q n _ _=>⟨u.slots,k b u (hb b n) q⟩,λ b u q n _=>by rw[iI (hx b n)];exact n,λ b u q _=>?_,
  λ b xs q=>by rw[iI (hm b _ q λ z=>z)];exact q,λ b u xs q=>by rw[iI (hm b _ q λ z=>z)];exact q,λ b ps q=>⟨#[],by rw[iI (hm b _ q λ z=>z),q];simp⟩⟩
 by_cases hbe:b=e
 ·subst hbe;exact heo
 ·exact⟨u,k b u hbe q⟩
end
def trk (h:Heap)(H:Hp):List Addr:=(V2 h.objs.size).filter λ a=>(H a).isSome
def zM (h:Heap)(H:Hp):Heap:=PySem.W.hideAll h (trk h H)
theorem Gi (h:Heap)(H:Hp):(zM h H).objs.size=h.objs.size:=PySem.W.hideAll_size _ _
theorem HG {h:Heap}{H:Hp}{b:Addr}{o:Obj}(e:h.get? b=kb o)(n:H b=My):(zM h H).get? b=kb o :=
 PySem.W.hideAll_get _ e λ hm=>by have q:(H b).isSome=V0:=(aT.mp hm).2;rw[n]at q;simp at q
theorem Ln {h:Heap}{H:Hp}{b:Addr}{o:Obj}(e:(zM h H).get? b=kb o):h.get? b=kb o/\H b=My:=by
 have e':h.get? b=kb o:=PySem.W.of_hideAll (trk h H) e;refine⟨e',?_⟩;cases q:H b with
 | none=>rfl
 | some x =>have hm:b∈trk h H:=aT.mpr ⟨ay.mpr (aw e'),by simp[q]⟩;have z:(zM h H).get? b=My:=PySem.W.hideAll_none (trk h H) hm;rw[z]at e;cases e
def mi (g h:Heap)(L:Addr):hJ:=(V2 h.objs.size).filterMap λ a=>if a=L\/(g.get? a).isSome=V0 then My else (h.get? a).map λ o=>(a,o)
theorem Ba {g h:Heap}{L a:Addr}{o:Obj}(h1:a≠L)(h2:g.get? a=My)(h3:h.get? a=kb o):(a,o)∈mi g h L :=
 du.mpr ⟨a,ay.mpr (aw h3),by simp[h1,h2,h3]⟩
set_option tactic.hygienic true in
theorem lr {g h:Heap}{L:Addr}{p:Addr×Obj}(hp:p∈mi g h L):p.1≠L/\g.get? p.1=My/\h.get? p.1=kb p.2:=by
 obtain⟨b,_,e⟩:=du.mp hp;split at e
 ·cases e
 ·rename_i hn
  cases q:h.get? b with
  | none=>rw[q]at e;simp at e
  | some u =>
   rw[q]at e;simp only[cq,Option.some.injEq]at e;subst e;refine⟨λ z=>hn (.inl z),?_,q⟩;show g.get? b=My;cases r:g.get? b with
   | none=>rfl
   | some v=>exact(hn (.inr (by simp[r]))).elim
structure Mod (K:g9)(mg:gZ)(base:Heap):Prop where
 kin:K.In base
 glob:base.Ns mainGlobals mg
 blt:∃ mb,base.Ns builtinsNs mb/\∀ x:Str,x≠"__name__"->mb x=bootBuiltins x
 nolimit:base.NoLimit
set_option genInjectivity false in
set_option genSizeOf false in
structure Cx where
 prog:Program
 w:World
 K:g9
 mg:Str->g6 g_
 base:Heap
 A:Around
 N:List Str
 s₀:hE
 H₀:Hp
 env:Env
 outer:List Env
 stack:List Env
 ex:List Addr
 fn:Str->Bool
 calm:Bool
 pn:hJ
 xe:g_->hE->Prop
def frs (l:List Env):List Addr:=l.filterMap (·.frame)
abbrev Cx.fs (X:Cx):List Addr:=frs X.outer
def Vis (sc:Scope)(x:Str):Prop:=sc.names.lookup x=kb .local\/sc.names.lookup x=kb .cell\/sc.names.lookup x=kb .free
def Loc (sc:Scope)(x:Str):Prop:=sc.names.lookup x=kb .local\/sc.names.lookup x=kb .cell
def Look (env:Env)(h:Heap)(m:gZ)(x:Str)(u:g_):Prop :=
 (env.kindOf x=kb .local/\m x=kb u)\/((env.kindOf x=kb .cell\/env.kindOf x=kb .free)/\∃ c,env.cells.lookup x=kb c/\h.IsCell c (kb u))
structure Cx.Ok (X:Cx):Prop where
 mod:Mod X.K X.mg X.base
 kind:X.env.scope.kind=.function
 glob:X.env.globals=mainGlobals
 blt:X.env.builtins=builtinsNs
 above:X.s₀.heap.objs.size<=X.env.locals
 inj:∀ x y c,X.env.cells.lookup x=kb c->X.env.cells.lookup y=kb c->x=y
 has:∀ x,(X.env.kindOf x=kb .cell\/X.env.kindOf x=kb .free)->∃ c,X.env.cells.lookup x=kb c
 cab:∀ x c,X.fn x=V0->X.env.cells.lookup x=kb c->X.s₀.heap.objs.size<=c
 hd:X.calm=V0->X.A.handled=My
 frames:X.A.frames=kb X.stack
 stk:X.stack=X.outer\/(X.stack=X.env::X.outer/\X.env.frame=kb X.env.locals)
 exf:∀ b∈X.ex,b≠X.env.locals/\∀ x c,X.env.cells.lookup x=kb c->c≠b
 bs:∀ b o,X.base.get? b=kb o->X.s₀.heap.get? b=kb o/\X.H₀ b=My
 bsz:X.base.objs.size<=X.s₀.heap.objs.size
 C6:∀ b o,X.base.get? b=kb o->b∉X.ex
 HH:∀ b∈X.ex,b∉X.fs
 tQ:X.s₀.heap.FunFrames X.base X.outer
 frf:∀ b∈X.fs,X.H₀ b=My
structure Inv (X:Cx)(pins:hJ)(σ:List (g6 V))(H:Hp)(s:hE):Prop where
 ok:X.Ok
 os:s.os=X.s₀.os
 bare:AllBare s.gens
 base:Un X.fs X.ex X.H₀ H X.s₀.heap s.heap
 loc:∃ m,s.heap.Ns X.env.locals m/\∀ (i:Nat) (x:Str) (v:V),X.N[i]?=kb x->σ[i]?=kb (kb v)->Vis X.env.scope x->∃ u,RelV v u/\Look X.env s.heap m x u
 cell:∀ x c,X.env.cells.lookup x=kb c->∃ v,s.heap.IsCell c v
 free:H X.env.locals=My
 lY:∀ x c,X.env.cells.lookup x=kb c->H c=My
 pin:∀ p∈X.pn++pins,s.heap.get? p.1=kb p.2/\H p.1=My/\p.1≠X.env.locals/\p.1∉X.fs/\∀ v,p.2.data≠.cell v
 hok:HOk X.prog X.w H s.heap
 len:σ.length=X.N.length
section
variable {X:Cx}{pins:hJ}{σ:List (g6 V)}{H H':Hp}{s:hE}{h':Heap}
theorem Cx.Ok.T_ (ok:X.Ok){b:Addr}{o:Obj}(e:X.base.get? b=kb o):b∉X.fs:=λ hb=>by have:=(ok.tQ.mem hb).1;rw[e]at this;cases this
theorem Inv.bs (I:Inv X pins σ H s):∀ b o,X.base.get? b=kb o->s.heap.get? b=kb o/\H b=My:=λ b o e =>⟨I.base.keep b o (I.ok.bs b o e).1 (I.ok.bs b o e).2 (I.ok.T_ e) (I.ok.C6 b o e),I.base.free b o (I.ok.bs b o e).1 (I.ok.bs b o e).2 (I.ok.C6 b o e)⟩
theorem Inv.bk (I:Inv X pins σ H s):∀ b o,X.base.get? b=kb o->s.heap.get? b=kb o:=λ b o e=>(I.bs b o e).1
theorem Inv.mod (I:Inv X pins σ H s):Mod X.K X.mg X.base:=I.ok.mod
theorem Inv.kIn (I:Inv X pins σ H s):X.K.In s.heap:=I.ok.mod.kin.keeps I.bk
theorem Inv.fr (I:Inv X pins σ H s):∃ m,Fr X.base X.env.locals s.heap m :=
 let ⟨m,hn,_⟩:=I.loc
 ⟨m,hn,I.bk,bg I.ok.bsz I.ok.above⟩
theorem Inv.lt (I:Inv X pins σ H s):X.env.locals<s.heap.objs.size:=let ⟨_,hn,_⟩:=I.loc;hn.lt
theorem Inv.sz (I:Inv X pins σ H s):X.s₀.heap.objs.size<=s.heap.objs.size:=bg I.ok.above (d8 I.lt)
theorem Inv.Ua (I:Inv X pins σ H s){a:Addr}(h:s.heap.objs.size<=a):a∉X.fs:=λ hb=>by obtain⟨_,o,ho,_⟩:=I.ok.tQ.mem hb;exact absurd (aB (aw ho) (bg I.sz h)) (aX _)
theorem Inv.cne (I:Inv X pins σ H s):∀ x c,X.env.cells.lookup x=kb c->c≠X.env.locals:=λ x c e z=>by obtain⟨v,o,ho,hd⟩:=I.cell x c e;obtain⟨m,⟨o',es,ep,ho',hd',_⟩,_⟩:=I.loc;rw[z,ho']at ho;cases ho;rw[hd']at hd;cases hd
theorem Inv.tQ (I:Inv X pins σ H s):s.heap.FunFrames X.base X.outer:=by
 have all:∀ (l:List Env),(∀ b∈frs l,b∈X.fs)->X.s₀.heap.FunFrames X.base l->s.heap.FunFrames X.base l:=by
  intro l;induction l with
  | nil=>intro _ _;trivial
  | cons env r ih =>intro hs hl;obtain⟨hk,⟨L,o,hf,hn,ho,hd⟩,hr⟩:=hl;have hL:L∈X.fs:=hs L (by unfold frs;rw[bW,hf];exact av);obtain⟨sl,e⟩:=I.base.slot L o ho (I.ok.frf L hL) hL λ z=>I.ok.HH L z hL;exact⟨hk,⟨L,_,hf,hn,e,hd⟩,ih (λ b hb=>hs b (by unfold frs;rw[bW,hf];exact ar _ hb)) hr⟩
 exact all X.outer (λ _ hb=>hb) I.ok.tQ
theorem Inv.stack (I:Inv X pins σ H s):s.heap.FunFrames X.base X.stack:=by
 rcases I.ok.stk with e | ⟨e,hf⟩
 ·rw[e];exact I.tQ
 ·rw[e];obtain⟨m,hn,_⟩:=I.loc;refine .cons (by rw[I.ok.kind];decide) hf hn ?_ I.tQ;exact dO (bg I.ok.bsz I.ok.above)
theorem Inv.tR (I:Inv X pins σ H s):∀ b∈frs X.stack,b∈X.env.locals::X.fs:=λ b hb=>by
 rcases I.ok.stk with e | ⟨e,hf⟩
 ·rw[e]at hb;exact ar _ hb
 ·rw[e]at hb;unfold frs at hb;rw[bW,hf]at hb;exact hb
theorem Inv.vK (I:Inv X pins σ H s):∀ b∈frs X.stack,H b=My:=λ b hb=>by
 rcases aG.mp (I.tR b hb) with e | hb
 ·rw[e];exact I.free
 ·obtain⟨_,o,ho,_⟩:=I.ok.tQ.mem hb;exact I.base.free b o ho (I.ok.frf b hb) λ z=>I.ok.HH b z hb
theorem Inv.step {g':Array GenState}{t':Nat}{d':Drawn}{ch:List Addr}(I:Inv X pins σ H s)
  (hch:∀ b∈ch,(b∈X.ex\/X.s₀.heap.objs.size<=b)/\b≠X.env.locals/\(∀ x c,X.env.cells.lookup x=kb c->c≠b)/\∀ p∈X.pn++pins,p.1≠b)
  (keep:∀ b o,b≠X.env.locals->b∉X.fs->b∉ch->s.heap.get? b=kb o->H b=My->h'.get? b=kb o)
  (slot:∀ b o,b≠X.env.locals->b∈X.fs->b∉ch->s.heap.get? b=kb o->H b=My->∃ sl,h'.get? b=kb {o with slots:=sl}) (free:∀ b o,b∉ch->s.heap.get? b=kb o->H b=My->H' b=My)
  (there:∀ b o,b∉ch->s.heap.get? b=kb o->∃ o',h'.get? b=kb o')
  (pJ:∀ b xs,H b=kb (.tup xs)->H' b=kb (.tup xs)) (pK:∀ b o u,H b=kb (.frz o u)->H' b=kb (.frz o u)) (tP:∀ b ps,H b=kb (.tbl ps)->∃ more,H' b=kb (.tbl (ps++more)))
  (ns:∀ m,s.heap.Ns X.env.locals m->h'.Ns X.env.locals m) (hok:HOk X.prog X.w H' h') (hg:AllBare g') :
  Inv X pins σ H' {s with heap:=h',gens:=g',drawn:=d',toks:=t'}:=by
 have neL:∀ b o,X.s₀.heap.get? b=kb o->b≠X.env.locals:=λ b o e=>aU (aB (aw e) I.ok.above);have neC:∀ b o,X.s₀.heap.get? b=kb o->b∉X.ex->b∉ch:=λ b o e hx hb=>by
  rcases (hch b hb).1 with z | z
  ·exact hx z
  ·exact absurd (aB (aw e) z) (aX _)
 have cellK:∀ x c,X.env.cells.lookup x=kb c->∀ v,s.heap.IsCell c v->h'.IsCell c v:=λ x c e v ⟨o,ho,hd⟩=>by
  have nch:c∉ch:=λ z=>(hch c z).2.2.1 x c e rfl;by_cases hc:c∈X.fs
  ·obtain⟨sl,q⟩:=slot c o (I.cne x c e) hc nch ho (I.lY x c e);exact⟨_,q,hd⟩
  ·exact⟨o,keep c o (I.cne x c e) hc nch ho (I.lY x c e),hd⟩
 refine⟨I.ok,I.os,hg,⟨λ b o e n hb hx=>?_,λ b o e n hb hx=>?_,λ b o e n hx=>?_,λ b o e hx=>?_,λ b xs e=>pJ b xs (I.base.pJ b xs e),λ b o xs e=>pK b o xs (I.base.pK b o xs e),λ b ps e=>?_⟩,?_,λ x c e=>?_,?_,λ x c e=>?_,λ p hp=>?_,hok,I.len⟩
 ·exact keep b o (neL b o e) hb (neC b o e hx) (I.base.keep b o e n hb hx) (I.base.free b o e n hx)
 ·obtain⟨sl,e1⟩:=I.base.slot b o e n hb hx;obtain⟨sl',e2⟩:=slot b _ (neL b o e) hb (neC b o e hx) e1 (I.base.free b o e n hx);exact⟨sl',e2⟩
 ·obtain⟨o',e1⟩:=I.base.there b o e hx;exact free b o' (neC b o e hx) e1 (I.base.free b o e n hx)
 ·obtain⟨o',e1⟩:=I.base.there b o e hx;exact there b o' (neC b o e hx) e1
 ·obtain⟨m1,e1⟩:=I.base.tP b ps e;obtain⟨m2,e2⟩:=tP b _ e1;exact⟨m1++m2,by rw[e2,Array.append_assoc]⟩
 ·obtain⟨m,hn,hl⟩:=I.loc
  refine⟨m,ns m hn,λ i x v e1 e2 e3=>?_⟩;obtain⟨u,r,l⟩:=hl i x v e1 e2 e3;refine⟨u,r,?_⟩;rcases l with l | ⟨k,c,e,z⟩
  ·exact .inl l
  ·exact .inr ⟨k,c,e,cellK x c e _ z⟩
 ·obtain⟨v,z⟩:=I.cell x c e;exact⟨v,cellK x c e v z⟩
 ·obtain⟨m,⟨o,_,_,ho,_⟩,_⟩:=I.loc;exact free _ o (λ z=>(hch _ z).2.1 rfl) ho I.free
 ·obtain⟨v,o,ho,hd⟩:=I.cell x c e;exact free c o (λ z=>(hch c z).2.2.1 x c e rfl) ho (I.lY x c e)
 ·obtain⟨e,n,ne,nf,d⟩:=I.pin p hp;have nch:p.1∉ch:=λ z=>(hch p.1 z).2.2.2 p hp rfl;exact⟨keep p.1 p.2 ne nf nch e n,free p.1 p.2 nch e n,ne,nf,d⟩
theorem Inv.un {t':Nat}(I:Inv X pins σ H s)(u:Un X.fs [] H H' s.heap h')(hok:HOk X.prog X.w H' h'):Inv X pins σ H' {s with heap:=h',toks:=t'}:=by obtain⟨m,⟨o,es,ep,ho,r⟩,_⟩:=id I.loc;obtain⟨sl,hL⟩:=u.any ho I.free (by simp);exact I.step (g':=s.gens) (d':=s.drawn) (ch:=[]) (λ _ z=>nomatch z) (λ b o _ hb _ e n=>u.keep b o e n hb (by simp)) (λ b o _ hb _ e n=>u.slot b o e n hb (by simp)) (λ b o _ e n=>u.free b o e n (by simp)) (λ b o _ e=>u.there b o e (by simp)) u.pJ u.pK u.tP (λ m' hm=>by obtain⟨o',es',ep',ho',r'⟩:=hm;rw[ho]at ho';cases ho';exact⟨_,es',ep',hL,r'⟩) hok I.bare
theorem Inv.call {g':Array GenState}{t':Nat}{d':Drawn}{ch:List Addr}(I:Inv X pins σ H s)(u:Un (frs X.stack) ch H H' s.heap h')(hok:HOk X.prog X.w H' h')(hg:AllBare g')
  (hch:∀ b∈ch,(b∈X.ex\/X.s₀.heap.objs.size<=b)/\b≠X.env.locals/\(∀ x c,X.env.cells.lookup x=kb c->c≠b)/\∀ p∈X.pn++pins,p.1≠b) :
  Inv X pins σ H' {s with heap:=h',gens:=g',drawn:=d',toks:=t'}:=by
 obtain⟨m,⟨o,es,ep,ho,r⟩,_⟩:=id I.loc;obtain⟨sl,hL⟩:=u.any ho I.free λ z=>(hch _ z).2.1 rfl;exact I.step (ch:=ch) hch (λ b o hL hb hc e n=>u.keep b o e n (λ z=>(aG.mp (I.tR b z)).elim hL hb) hc) (λ b o _ _ hc e n=>u.any e n hc) (λ b o hc e n=>u.free b o e n hc) (λ b o hc e=>u.there b o e hc) u.pJ u.pK u.tP (λ m' hm=>by obtain⟨o',es',ep',ho',r'⟩:=hm;rw[ho]at ho';cases ho';exact⟨_,es',ep',hL,r'⟩) hok hg
theorem Inv.turned {t':Nat}{it:Addr}(I:Inv X pins σ H s)(k:∀ b o,b≠it->s.heap.get? b=kb o->h'.get? b=kb o)(hn:H it=My)(hL:it≠X.env.locals)
  (h1:it∈X.ex\/X.s₀.heap.objs.size<=it) (h2:∀ x c,X.env.cells.lookup x=kb c->c≠it) (h3:∀ p∈X.pn++pins,p.1≠it):Inv X pins σ H {s with heap:=h',toks:=t'}:=by
 have nit:∀ b u,H b=kb u->b≠it:=λ b u e z=>by rw[z,hn]at e;cases e
 refine I.step (g':=s.gens) (d':=s.drawn) (ch:=[it]) (λ b hb=>?_) (λ b o _ _ hc e _=>k b o (λ z=>hc (by simp[z])) e) (λ b o _ _ hc e _=>⟨o.slots,k b o (λ z=>hc (by simp[z])) e⟩) (λ _ _ _ _ n=>n)
  (λ b o hc e=>⟨o,k b o (λ z=>hc (by simp[z])) e⟩) (λ _ _ e=>e) (λ _ _ _ e=>e) (λ b ps e=>⟨#[],by rw[e];simp⟩) (λ m hm=>?_) (λ b u e=>?_) I.bare
 ·have e:b=it:=by simpa using hb
  subst e;exact⟨h1,hL,h2,h3⟩
 ·obtain⟨o,es,ep,ho,r⟩:=hm;exact⟨o,es,ep,k _ o (aY hL) ho,r⟩
 ·refine(I.hok b u e).vZ (λ c v hc q=>k c v ?_ q) (λ _ q=>q) λ _ _ q=>q
  rcases hc with z | z
  ·rw[z];exact nit b u e
  ·exact nit c _ z
theorem Inv.tok (I:Inv X pins σ H s)(t:Nat):Inv X pins σ H {s with toks:=t}:=I.un (h':=s.heap) (t':=t) Un.refl I.hok
theorem Inv.kept {t':Nat}(I:Inv X pins σ H s)(k:∀ b u,s.heap.get? b=kb u->h'.get? b=kb u):Inv X pins σ H {s with heap:=h',toks:=t'}:=I.un (Un.kept k) (I.hok.kept k)
theorem Inv.laid {a:Addr}{o:HO}{t':Nat}(I:Inv X pins σ H s)(k:∀ b u,s.heap.get? b=kb u->h'.get? b=kb u)(hp:s.heap.objs.size<=a)(new:jO X.prog X.w (upd H a o) h' a o) :
  Inv X pins σ (upd H a o) {s with heap:=h',toks:=t'}:=I.un (Un.laid k hp (I.hok.fresh hp)) (I.hok.laid k hp new)
theorem Inv.write {x e:Addr}{o:HO}{t':Nat}(I:Inv X pins σ H s)(mu:Mut (H x))(he:e=x\/H e=kb (.own x))(k:∀ b u,b≠e->s.heap.get? b=kb u->h'.get? b=kb u)(heo:∃ u,h'.get? e=kb u)
  (new:jO X.prog X.w (upd H x o) h' x o):Inv X pins σ (upd H x o) {s with heap:=h',toks:=t'}:=I.un (Un.write mu he k heo) (I.hok.write mu he k heo new)
theorem Inv.weak {σ':List (g6 V)}(I:Inv X pins σ H s)(hl:σ'.length=σ.length)(w:∀ (i:Nat) v,σ'[i]?=kb (kb v)->σ[i]?=kb (kb v)):Inv X pins σ' H s :=
 ⟨I.ok,I.os,I.bare,I.base,let ⟨m,hn,hl'⟩:=I.loc;⟨m,hn,λ i x v e1 e2 e3=>hl' i x v e1 (w i v e2) e3⟩,I.cell,I.free,I.lY,I.pin,I.hok,hl.trans I.len⟩
theorem Inv.mj {pins':hJ}(I:Inv X pins σ H s)(h:∀ p∈pins',s.heap.get? p.1=kb p.2/\H p.1=My/\p.1≠X.env.locals/\p.1∉X.fs/\∀ v,p.2.data≠.cell v):Inv X pins' σ H s :=
 ⟨I.ok,I.os,I.bare,I.base,I.loc,I.cell,I.free,I.lY,λ p hp=>(bh.mp hp).elim (λ z=>I.pin p (aM _ z)) (h p),I.hok,I.len⟩
theorem v8 {N:List Str}(hN:N.Nodup){i j:Nat}{x:Str}(a:N[i]?=kb x)(b:N[j]?=kb x):i=j:=by obtain⟨h1,e1⟩:=a_.mp a;obtain⟨h2,e2⟩:=a_.mp b;exact(List.getElem_inj hN).mp (e1.trans e2.symm)
theorem tS {M:Model}{A:Around}{E:g0}{i:Nat}{x:Str}{v:V}{u:g_}{Q:Unit->hE->Prop}(I:Inv X pins σ H s)(hN:X.N.Nodup)(hi:X.N[i]?=kb x)(hx:Loc X.env.scope x)(r:RelV v u)
  (h:∀ s',Inv X pins (σ.set i (kb v)) H s'->(∃ a,Heap.SameBut a s.heap s'.heap/\(a=X.env.locals\/X.env.cells.lookup x=kb a))->Q () s') (hf:X.fn x=V0\/X.env.scope.names.lookup x=kb .local):wpAny M A (storeName X.env x u) Q E s:=by
 obtain⟨m,hn,hl⟩:=id I.loc;have hcls:(X.env.scope.kind==.class || (X.env.scope.kind==.module&&X.env.locals != X.env.globals))=V1:=by rw[I.ok.kind];rfl
 have hiσ:i<σ.length:=by rw[I.len];exact(a_.mp hi).1
 have cne:=I.cne;have tracked:∀ {a:Addr} {h':Heap},(∃ o,s.heap.get? a=kb o/\H a=My)->Heap.SameBut a s.heap h'->HOk X.prog X.w H h':=λ{a h'} ha hs b ob e=>by
  obtain⟨_,_,hfree⟩:=ha;refine(I.hok b ob e).vZ (λ c w' hc q=>(hs.2 c ?_).trans q) (λ _ q=>q) λ _ _ q=>q;rintro rfl;rcases hc with rfl | hc
  ·rw[hfree]at e;cases e
  ·rw[hfree]at hc;cases hc
 rcases hx with hk | hk
 ·refine wpAny_storeName_local hk hn (λ h' hn' hs=>?_) hcls
  obtain⟨oL,_,_,hoL,_⟩:=id hn;refine h _ ⟨I.ok,I.os,I.bare,⟨λ b o e n hb hx=>?_,λ b o e n hb hx=>?_,I.base.free,λ b o e hx=>?_,I.base.pJ,I.base.pK,I.base.tP⟩,⟨_,hn',λ j y v' e1 e2 e3=>?_⟩,λ y c e=>?_,I.free,I.lY,λ p hp=>?_,tracked ⟨oL,hoL,I.free⟩ hs,by simpa using I.len⟩ ⟨_,hs,.inl rfl⟩
  ·exact(hs.2 b (aU (aB (aw e) I.ok.above))).trans (I.base.keep b o e n hb hx)
  ·obtain⟨sl,e1⟩:=I.base.slot b o e n hb hx;exact⟨sl,(hs.2 b (aU (aB (aw e) I.ok.above))).trans e1⟩
  ·obtain⟨o',e1⟩:=I.base.there b o e hx;exact⟨o',(hs.2 b (aU (aB (aw e) I.ok.above))).trans e1⟩
  ·by_cases hj:j=i
   ·subst hj;rw[hi]at e1;cases e1;rw[cu hiσ]at e2;cases e2;exact⟨u,r,.inl ⟨hk,by simp⟩⟩
   ·rw[bK (aY hj)]at e2
    obtain⟨u',r',q⟩:=hl j y v' e1 e2 e3;refine⟨u',r',?_⟩;rcases q with⟨k,e⟩ | ⟨k,c,e,z⟩
    ·refine .inl ⟨k,?_⟩;have:y≠x:=λ e=>hj (v8 hN e1 (e▸hi));simp[this,e]
    ·exact .inr ⟨k,c,e,z.sameBut hs (cne y c e)⟩
  ·obtain⟨w',z⟩:=I.cell y c e;exact⟨w',z.sameBut hs (cne y c e)⟩
  ·obtain⟨e,n,ne,nf,d⟩:=I.pin p hp;exact⟨(hs.2 p.1 ne).trans e,n,ne,nf,d⟩
 ·have hfn:X.fn x=V0:=by
   rcases hf with z | z
   ·exact z
   ·rw[z]at hk;cases hk
  obtain⟨c,hc⟩:=I.ok.has x (.inl hk);obtain⟨w',z⟩:=I.cell x c hc;refine wpAny_storeName_cell I.ok.kind hk hc z (λ h' hc' hs=>?_);obtain⟨oc,hoc,hocd⟩:=id z;refine h {s with heap:=h'} ⟨I.ok,I.os,I.bare,⟨λ b o e n hb hx=>?_,λ b o e n hb hx=>?_,I.base.free,λ b o e hx=>?_,I.base.pJ,I.base.pK,I.base.tP⟩,⟨m,hn.sameBut hs (aY (cne x c hc)),λ j y v' e1 e2 e3=>?_⟩,λ y c' e=>?_,I.free,I.lY,λ p hp=>?_,tracked ⟨oc,hoc,I.lY x c hc⟩ hs,by simpa using I.len⟩ ⟨c,hs,.inr hc⟩
  ·exact(hs.2 b (aU (aB (aw e) (I.ok.cab x c hfn hc)))).trans (I.base.keep b o e n hb hx)
  ·obtain⟨sl,e1⟩:=I.base.slot b o e n hb hx;exact⟨sl,(hs.2 b (aU (aB (aw e) (I.ok.cab x c hfn hc)))).trans e1⟩
  ·obtain⟨o',e1⟩:=I.base.there b o e hx;exact⟨o',(hs.2 b (aU (aB (aw e) (I.ok.cab x c hfn hc)))).trans e1⟩
  ·by_cases hj:j=i
   ·subst hj;rw[hi]at e1;cases e1;rw[cu hiσ]at e2;cases e2;exact⟨u,r,.inr ⟨.inl hk,c,hc,hc'⟩⟩
   ·rw[bK (aY hj)]at e2
    obtain⟨u',r',q⟩:=hl j y v' e1 e2 e3;refine⟨u',r',?_⟩;rcases q with q | ⟨k,c',e,z'⟩
    ·exact .inl q
    ·refine .inr ⟨k,c',e,z'.sameBut hs ?_⟩;rintro rfl;exact hj (v8 hN e1 (I.ok.inj _ _ _ e hc▸hi))
  ·by_cases hcc:c'=c
   ·subst hcc;exact⟨_,hc'⟩
   ·obtain⟨w2,z2⟩:=I.cell y c' e;exact⟨w2,z2.sameBut hs hcc⟩
  ·obtain⟨e,n,ne,nf,d⟩:=I.pin p hp;refine⟨(hs.2 p.1 ?_).trans e,n,ne,nf,d⟩;intro q;rw[q,hoc]at e;have q':oc=p.2:=aF e;exact d w' (by rw[<-q'];exact hocd)
theorem nR {M:Model}{A:Around}{E:g0}{i:Nat}{x:Str}{v:V}{u:g_}{Q:Unit->hE->Prop}(I:Inv X pins σ H s)(hN:X.N.Nodup)(hi:X.N[i]?=kb x)(hx:Loc X.env.scope x)(r:RelV v u)
  (h:∀ s',Inv X pins (σ.set i (kb v)) H s'->Q () s') (hf:X.fn x=V0\/X.env.scope.names.lookup x=kb .local:=by trivial):wpAny M A (storeName X.env x u) Q E s :=
 tS I hN hi hx r (λ s' I' _=>h s' I') hf
theorem Inv.Ny {s':hE}{ch:List Addr}(I:Inv X pins σ H s)(ho:s'.os=s.os)(u:Un (frs X.stack) ch H H' s.heap s'.heap)(hok:HOk X.prog X.w H' s'.heap)(hg:AllBare s'.gens)
  (hch:∀ b∈ch,(b∈X.ex\/X.s₀.heap.objs.size<=b)/\b≠X.env.locals/\(∀ x c,X.env.cells.lookup x=kb c->c≠b)/\∀ p∈X.pn++pins,p.1≠b):Inv X pins σ H' s':=by
 obtain⟨h',g',d',t',o'⟩:=s';have e:o'=s.os:=ho;subst e;exact I.call (g':=g') (t':=t') (d':=d') u hok hg hch
end
abbrev XK:=g_->g6 Addr->Hp->Prop
abbrev St:=List (g6 V)
abbrev VK:=V->Hp->Prop
abbrev TE:=St->Hp->VK->Prop
abbrev TT:=St->Hp->(Bool->Hp->Prop)->Prop
abbrev TA:=St->Hp->(List V->Hp->Prop)->Prop
set_option genInjectivity false in
set_option genSizeOf false in
structure Ends where
 nx:St->Hp->Prop
 rt:VK
 bk:St->Hp->Prop:=λ _ _=>False
 ct:St->Hp->Prop:=λ _ _=>False
abbrev TS:=Ends->St->Hp->Prop
def EP (X:Cx)(pins:hJ)(σ:St)(Q:VK)(u:g_)(s':hE):Prop:=∃ v H',Inv X pins σ H' s'/\RelV v u/\Q v H'
def TP (X:Cx)(pins:hJ)(σ:St)(Q:Bool->Hp->Prop)(b:Bool)(s':hE):Prop:=∃ H',Inv X pins σ H' s'/\Q b H'
def AP (X:Cx)(pins:hJ)(σ:St)(Q:List V->Hp->Prop)(us:List g_)(s':hE):Prop:=∃ vs H',Inv X pins σ H' s'/\Vals vs us/\Q vs H'
def SP (X:Cx)(pins:hJ)(D:Ends)(f:Flow)(s':hE):Prop :=
 match f with
 | .next=>∃ σ' H',Inv X pins σ' H' s'/\D.nx σ' H'
 | .brk=>∃ σ' H',Inv X pins σ' H' s'/\D.bk σ' H'
 | .cont=>∃ σ' H',Inv X pins σ' H' s'/\D.ct σ' H'
 | .ret u=>∃ v σ' H',Inv X pins σ' H' s'/\RelV v u/\D.rt v H'
def PE (X:Cx)(e:Expr)(t:TE):Prop :=
 ∀ (pins:hJ) (s:hE) (σ:St) (H:Hp) (Q:VK),Inv X pins σ H s->t σ H Q->wpAny (model X.prog X.w) X.A (eval e X.env) (EP X pins σ Q) X.xe s
def PT (X:Cx)(e:Expr)(t:TT):Prop :=
 ∀ (pins:hJ) (s:hE) (σ:St) (H:Hp) (Q:Bool->Hp->Prop),Inv X pins σ H s->t σ H Q->wpAny (model X.prog X.w) X.A (isTrue e X.env (eval e X.env)) (TP X pins σ Q) X.xe s
def PW (X:Cx)(e:Expr)(t:TT):Prop :=
 ∀ (whole:Sem g_) (pins:hJ) (s:hE) (σ:St) (H:Hp) (Q:Bool->Hp->Prop),Inv X pins σ H s->t σ H Q->wpAny (model X.prog X.w) X.A (isTrue e X.env whole) (TP X pins σ Q) X.xe s
theorem PW.pt {X:Cx}{e:Expr}{t:TT}(h:PW X e t):PT X e t:=h _
def PA (X:Cx)(es:List Expr)(t:TA):Prop :=
 ∀ (pos:Pos) (pins:hJ) (s:hE) (σ:St) (H:Hp) (Q:List V->Hp->Prop),Inv X pins σ H s->t σ H Q->wpAny (model X.prog X.w) X.A (spliced (backTo pos (starEach es X.env))) (AP X pins σ Q) X.xe s
def PS (X:Cx)(st:Stmt)(t:TS):Prop :=
 ∀ (pins:hJ) (s:hE) (σ:St) (H:Hp) (D:Ends),Inv X pins σ H s->t D σ H->wpAny (model X.prog X.w) X.A (exec st X.env) (SP X pins D) X.xe s
def PSs (X:Cx)(st:List Stmt)(t:TS):Prop :=
 ∀ (pins:hJ) (s:hE) (σ:St) (H:Hp) (D:Ends),Inv X pins σ H s->t D σ H->wpAny (model X.prog X.w) X.A (execs st X.env) (SP X pins D) X.xe s
theorem thn {α:Type}{t:Sem α}{Q Q':α->hE->Prop}{M:Model}{A:Around}{E:g0}{s:hE}(h:wpAny M A t Q E s)(hQ:∀ a s,Q a s->Q' a s):wpAny M A t Q' E s:=cv h hQ λ _ _ x=>x
section
variable {X:Cx}
theorem bin {a b:Expr}{ta tb:TE}(ha:PE X a ta)(hb:PE X b tb){pins:hJ}{s:hE}{σ:St}{H:Hp}{R:V->V->Hp->Prop}(I:Inv X pins σ H s)(h:ta σ H λ x H1=>tb σ H1 λ y H2=>R x y H2)
  {α:Type} {Q:α->hE->Prop} {f:g_->g_->Sem α}
  (hf:∀ v u s2 x y H2,Inv X pins σ H2 s2->RelV x v->RelV y u->R x y H2->wpAny (model X.prog X.w) X.A (f v u) Q X.xe s2) :
  wpAny (model X.prog X.w) X.A (eval a X.env) (λ v s₁=>wpAny (model X.prog X.w) X.A (eval b X.env) (λ u s₂=>wpAny (model X.prog X.w) X.A (f v u) Q X.xe s₂) X.xe s₁) X.xe s:=by
 refine thn (ha pins s σ H _ I h) λ v s1 ⟨x,H1,I1,r1,q1⟩=>?_;refine thn (hb pins s1 σ H1 _ I1 q1) λ u s2 ⟨y,H2,I2,r2,q2⟩=>?_;exact hf v u s2 x y H2 I2 r1 r2 q2
def iX (i:Nat):TE:=λ σ H Q=>∃ v,σ[i]?=kb (kb v)/\Q v H
def tC (v:V):TE:=λ _ H Q=>Q v H
theorem HI {i:Nat}{x:Str}{pos:Pos}(hN:X.N[i]?=kb x)(hv:Vis X.env.scope x)(hd:(x==("__debug__":Str))=V1:=by decide)(hcd:(x==("__classdict__":Str))=V1:=by decide):PE X (.Name x pos) (iX i):=by
 intro pins s σ H Q I h;obtain⟨v,e,h⟩:=h;obtain⟨m,hn,hl⟩:=I.loc;obtain⟨u,r,l⟩:=hl i x v hN e hv;have fin:EP X pins σ Q u s:=⟨v,H,I,r,h⟩;rcases l with⟨hk,hm⟩ | ⟨hk,c,hc,hcell⟩
 ·exact wpAny_Name (wpAny_loadName_local I.ok.kind hk hn hm fin) hd
 ·rcases hk with hk | hk
  ·exact wpAny_Name (wpAny_loadName_cell I.ok.kind hk hc hcell fin) hd
  ·exact wpAny_Name (wpAny_loadName_free I.ok.kind hk hc hcell fin hcd) hd
theorem iS {i j pos}:PE X (.Constant (.int i) j pos) (tC (.int i)):=λ _ _ _ H _ I h=>wpAny_Constant_int ⟨.int i,H,I.tok _,⟨_,rfl⟩,h⟩
theorem Nz {b j pos}:PE X (.Constant (.bool b) j pos) (tC (.bl b)):=λ _ _ _ H _ I h=>Constant_bool ⟨.bl b,H,I,rfl,h⟩
theorem OP {j pos}:PE X (.Constant .none j pos) (tC .non):=λ _ _ _ H _ I h=>Constant_none ⟨.non,H,I,rfl,h⟩
theorem OQ {x j pos}:PE X (.Constant (.str x) j pos) (tC (.str x)):=λ _ _ _ H _ I h=>Calls.Constant_str ⟨.str x,H,I.tok _,⟨_,rfl⟩,h⟩
def Gl (X:Cx)(x:Str):Prop:=X.env.kindOf x=kb .globalImplicit
theorem r9 {E:g0}{pins:hJ}{s:hE}{σ:St}{H:Hp}{x:Str}{u:g_}{pos:Pos}{Q:g0}(I:Inv X pins σ H s)(hg:Gl X x)(hm:X.mg x=kb u)(h:Q u s)
  (hd:(x==("__debug__":Str))=V1:=by decide):wpAny (model X.prog X.w) X.A (eval (.Name x pos) X.env) Q E s :=
 Calls.Name_function_global I.ok.kind hg (Calls.loadGlobal_global (by rw[I.ok.glob];exact I.mod.glob.keeps I.bk) hm h) hd
theorem rq {E:g0}{pins:hJ}{s:hE}{σ:St}{H:Hp}{x:Str}{u:g_}{pos:Pos}{Q:g0}(I:Inv X pins σ H s)(hg:Gl X x)(hm:X.mg x=My)(hv:bootBuiltins x=kb u)(h:Q u s)
  (hn:x≠"__name__":=by decide) (hd:(x==("__debug__":Str))=V1:=by decide):wpAny (model X.prog X.w) X.A (eval (.Name x pos) X.env) Q E s:=by
 obtain⟨mb,h1,h2⟩:=I.mod.blt;exact Calls.Name_function_global I.ok.kind hg (Calls.loadGlobal_builtin (by rw[I.ok.glob];exact I.mod.glob.keeps I.bk) hm (by rw[I.ok.blt];exact h1.keeps I.bk) ((h2 x hn).trans hv) h) hd
theorem EO {x:Str}{v:V}{u:g_}{pos:Pos}(hg:Gl X x)(hm:X.mg x=kb u)(r:RelV v u)(hd:(x==("__debug__":Str))=V1:=by decide):PE X (.Name x pos) (tC v) :=
 λ _ _ _ H _ I h=>r9 I hg hm ⟨v,H,I,r,h⟩ hd
theorem ER {x:Str}{v:V}{u:g_}{pos:Pos}(hg:Gl X x)(hm:X.mg x=My)(hv:bootBuiltins x=kb u)(r:RelV v u)(hn:x≠"__name__":=by decide)(hd:(x==("__debug__":Str))=V1:=by decide):PE X (.Name x pos) (tC v) :=
 λ _ _ _ H _ I h=>rq I hg hm hv ⟨v,H,I,r,h⟩ hn hd
variable {a b:Expr}{ta tb:TE}{pos:Pos}
def PC (X:Cx)(op:CmpOp)(a b:Expr)(t:TE):Prop :=
 ∀ (pins:hJ) (s:hE) (σ:St) (H:Hp) (Q:VK),Inv X pins σ H s->t σ H Q ->
  wpAny (model X.prog X.w) X.A (eval a X.env) (λ v s₁=>wpAny (model X.prog X.w) X.A (eval b X.env) (λ u s₂=>wpAny (model X.prog X.w) X.A (compareOp op v u) (EP X pins σ Q) X.xe s₂) X.xe s₁) X.xe s
def tB (t:TE):TT:=λ σ H Q=>t σ H λ x H1=>∃ c,x=.bl c/\Q c H1
theorem HJ {op:CmpOp}{t:TE}(h:PC X op a b t)(h1:behindInMarks op b=V1):PT X (.Compare a [op] [b] pos) (tB t):=by intro pins s σ H Q I hw;refine wpAny_isTrue_Compare1 (thn (h pins s σ H _ I hw) λ v s1 h1=>thn h1 λ u s2 h2=>thn h2 λ c s3 ⟨x,H1,I1,r1,q1⟩=>?_) h1;obtain⟨d,rfl,q⟩:=q1;cases r1;exact bY ⟨H1,I1,q⟩
theorem OR {e:Expr}{t:TE}(h:PE X e t)(he:∀ whole,isTrue e X.env whole=(do let v<-whole;standAt e.pos;holding [v] (truthy v)):=by intro _;rfl):PT X e (tB t):=by intro pins s σ H Q I hw;refine isTrue_plain (thn (h pins s σ H _ I hw) λ v s1 ⟨x,H1,I1,r1,q1⟩=>?_) (he _);obtain⟨d,rfl,q⟩:=q1;cases r1;exact bY ⟨H1,I1,q⟩
variable {tA tB':TT}{rest:List Expr}
def Ub (t u:TT):TT:=λ σ H Q=>t σ H λ c H1=>if c=V0 then u σ H1 Q else Q V1 H1
def tOr (t u:TT):TT:=λ σ H Q=>t σ H λ c H1=>if c=V0 then Q V0 H1 else u σ H1 Q
def Uc (t:TT):TT:=λ σ H Q=>t σ H λ c H1=>Q (!c) H1
theorem Lo (ha:PT X a tA):PW X (.BoolOp .And [a] pos) tA:=by
 intro wh pins s σ H Q I h;refine isTrue_and (thn (ha pins s σ H Q I h) λ c s1 e=>?_);cases c with
 | true=>exact isTrue_and_nil e
 | false=>exact e
theorem HK (ha:PT X a tA):PW X (.BoolOp .Or [a] pos) tA:=by
 intro wh pins s σ H Q I h;refine isTrue_or (thn (ha pins s σ H Q I h) λ c s1 e=>?_);cases c with
 | false=>exact isTrue_or_nil e
 | true=>exact e
theorem OS (ha:PT X a tA)(hb:PW X (.BoolOp .And (b::rest) pos) tB'):PW X (.BoolOp .And (a::b::rest) pos) (Ub tA tB'):=by
 intro wh pins s σ H Q I h;refine isTrue_and (thn (ha pins s σ H _ I h) λ c s1 ⟨H1,I1,q1⟩=>?_);cases c with
 | true=>exact hb wh pins s1 σ H1 Q I1 q1
 | false=>exact⟨H1,I1,q1⟩
theorem NA (ha:PT X a tA)(hb:PW X (.BoolOp .Or (b::rest) pos) tB'):PW X (.BoolOp .Or (a::b::rest) pos) (tOr tA tB'):=by
 intro wh pins s σ H Q I h;refine isTrue_or (thn (ha pins s σ H _ I h) λ c s1 ⟨H1,I1,q1⟩=>?_);cases c with
 | true=>exact⟨H1,I1,q1⟩
 | false=>exact hb wh pins s1 σ H1 Q I1 q1
theorem HL (ha:PT X a tA):PT X (.UnaryOp .Not a pos) (Uc tA):=by intro pins s σ H Q I h;exact isTrue_not (ha pins s σ H (λ c H1=>Q (!c) H1) I h)
def Rt (ta tb:TE):TE:=λ σ H Q=>ta σ H λ x H1=>∃ c,x=.bl c/\if c=V0 then tb σ H1 Q else Q (.bl V1) H1
def Ru (ta:TE):TE:=λ σ H Q=>ta σ H λ x H1=>∃ c,x=.bl c/\Q (.bl (!c)) H1
theorem OT {op}{t:TE}(h:PE X a t):PE X (.BoolOp op [a] pos) t:=λ pins s σ H Q I hw=>BoolOp_one (h pins s σ H Q I hw)
theorem OU (ha:PE X a ta)(hb:PE X (.BoolOp .And (b::rest) pos) tb):PE X (.BoolOp .And (a::b::rest) pos) (Rt ta tb):=by
 intro pins s σ H Q I h;refine BoolOp_and (thn (ha pins s σ H _ I h) λ v s1 ⟨x,H1,I1,r1,q1⟩=>?_);obtain⟨c,rfl,q1⟩:=q1;cases r1;refine bY ?_;cases c with
 | true=>exact hb pins s1 σ H1 Q I1 q1
 | false=>exact⟨.bl V1,H1,I1,rfl,q1⟩
theorem OV (ha:PE X a ta):PE X (.UnaryOp .Not a pos) (Ru ta):=by intro pins s σ H Q I h;refine UnaryOp_ (thn (ha pins s σ H _ I h) λ v s1 ⟨x,H1,I1,r1,q1⟩=>?_);obtain⟨c,rfl,q1⟩:=q1;cases r1;exact not_of (bY ⟨.bl (!c),H1,I1,rfl,q1⟩)
def tIf (t:TT)(ta tb:TE):TE:=λ σ H Q=>t σ H λ c H1=>if c=V0 then ta σ H1 Q else tb σ H1 Q
theorem HM {c:Expr}(hc:PT X c tA)(ha:PE X a ta)(hb:PE X b tb):PE X (.IfExp c a b pos) (tIf tA ta tb):=by
 intro pins s σ H Q I h;refine wpAny_IfExp (thn (hc pins s σ H _ I h) λ d s1 ⟨H1,I1,q1⟩=>?_);cases d with
 | true=>exact ha pins s1 σ H1 Q I1 q1
 | false=>exact hb pins s1 σ H1 Q I1 q1
end
def SqL (K:g9)(H:Hp)(a:Addr)(xs:List V):Prop :=
 Rd H a (.lst xs) \/
  ∃ (o:Obj) (its:Array g_) (n:Nat),K.lookup a=kb o/\o.cls=.type "list"/\o.dict=My/\o.data=.seq its n/\its.size<=sizeLine/\Vals xs its.toList
def SqT (K:g9)(H:Hp)(a:Addr)(xs:List V):Prop :=
 Rd H a (.tup xs) \/
  ∃ (o:Obj) (its:Array g_) (n:Nat),K.lookup a=kb o/\(o.cls=.type "tuple"/\o.dict=My)/\o.data=.seq its n/\its.size<=sizeLine/\Vals xs its.toList
def Ud:g_->g6 V
 | .none=>kb .non
 | .bool b=>kb (.bl b)
 | .int i _=>kb (.int i)
 | .str x _=>kb (.str x)
 | .bytes b _=>kb (.byt b)
 | .float b _=>kb (.flt b)
 | .ref a=>kb (.ref a)
 | .type n=>kb (.ty n)
 | _=>My
theorem RelV.abs {x:V}{u:g_}(r:RelV x u):Ud u=kb x:=by
 cases x with
 | non=>cases r;rfl
 | bl _=>cases r;rfl
 | int _=>obtain⟨t,rfl⟩:=r;rfl
 | str _=>obtain⟨t,rfl⟩:=r;rfl
 | byt _=>obtain⟨t,rfl⟩:=r;rfl
 | flt _=>obtain⟨t,rfl⟩:=r;rfl
 | ref _=>cases r;rfl
 | ty _=>cases r;rfl
theorem RelV.inj {x y:V}{u:g_}(r:RelV x u)(q:RelV y u):x=y:=aF (r.abs.symm.trans q.abs)
theorem Vals.inj:∀ {xs ys:List V} {us:List g_},Vals xs us->Vals ys us->xs=ys
 := by
  intro xs ys us h;induction h generalizing ys with
  | nil=>intro h';cases h';rfl
  | cons r t ih=>intro h';cases h' with | cons r' t'=>rw[r.inj r',ih t']
section
variable {X:Cx}{pins:hJ}{σ:St}{H:Hp}{s:hE}{a:Addr}{xs ys:List V}
theorem SqL.of {K:g9}(h:H a=kb (.lst xs)):SqL K H a xs:=.inl (.inl h)
theorem SqT.of {K:g9}(h:H a=kb (.tup xs)):SqT K H a xs:=.inl (.inl h)
theorem Inv.list (I:Inv X pins σ H s)(h:SqL X.K H a xs):∃ its:List g_,Vals xs its/\PlainL s.heap a its.toArray/\xs.length<=sizeLine:=by
 rcases h with h | ⟨o,its,n,hk,hc,hd,hs,hz,r⟩
 ·obtain⟨z,its,n,r,e⟩:=h.ok I.hok;exact⟨its,r,⟨_,n,e,rfl,rfl,rfl⟩,z⟩
 ·refine⟨its.toList,r,⟨o,n,I.kIn a o hk,hc,hd,by simpa using hs⟩,?_⟩;have e:=r.length;simp only[cw]at e;lia
theorem Inv.tuple (I:Inv X pins σ H s)(h:SqT X.K H a xs):∃ its:List g_,Vals xs its/\IsTup s.heap a its.toArray/\xs.length<=sizeLine:=by
 rcases h with h | ⟨o,its,n,hk,hc,hs,hz,r⟩
 ·obtain⟨z,its,r,p⟩:=h.ok I.hok;exact⟨its,r,p,z.1⟩
 ·refine⟨its.toList,r,⟨o,I.kIn a o hk,hc.1,n,by simpa using hs⟩,?_⟩;have e:=r.length;simp only[cw]at e;lia
theorem Inv.Bb (I:Inv X pins σ H s)(h:SqL X.K H a xs)(h':SqL X.K H a ys):xs=ys:=by
 obtain⟨its,r,⟨o,n,e,_,_,d⟩,_⟩:=I.list h;obtain⟨its',r',⟨o',n',e',_,_,d'⟩,_⟩:=I.list h';rw[e]at e';cases e';rw[d]at d';injection d' with d1 _;have:its=its':=by simpa using cG Array.toList d1
 subst this;exact r.inj r'
theorem Inv.nS (I:Inv X pins σ H s)(h:SqT X.K H a xs)(h':SqT X.K H a ys):xs=ys:=by
 obtain⟨its,r,⟨o,e,_,n,d⟩,_⟩:=I.tuple h;obtain⟨its',r',⟨o',e',_,n',d'⟩,_⟩:=I.tuple h';rw[e]at e';cases e';rw[d]at d';injection d' with d1 _;have:its=its':=by simpa using cG Array.toList d1
 subst this;exact r.inj r'
end
abbrev Cx.yk (X:Cx)(E:g0):Cx:={X with xe:=E}
abbrev Cx.nox (X:Cx):Cx:=X.yk λ _ _=>False
theorem Cx.Ok.yk {X:Cx}(ok:X.Ok)(E:g0):(X.yk E).Ok :=
 ⟨ok.mod,ok.kind,ok.glob,ok.blt,ok.above,ok.inj,ok.has,ok.cab,ok.hd,ok.frames,ok.stk,ok.exf,ok.bs,ok.bsz,ok.C6,ok.HH,ok.tQ,ok.frf⟩
theorem Cx.Ok.pN {X:Cx}{E:g0}(ok:(X.yk E).Ok):X.Ok :=
 ⟨ok.mod,ok.kind,ok.glob,ok.blt,ok.above,ok.inj,ok.has,ok.cab,ok.hd,ok.frames,ok.stk,ok.exf,ok.bs,ok.bsz,ok.C6,ok.HH,ok.tQ,ok.frf⟩
section
variable {X:Cx}{pins:hJ}{σ:St}{H:Hp}{s:hE}{E:g0}
theorem Inv.yk (I:Inv X pins σ H s)(E:g0):Inv (X.yk E) pins σ H s:=⟨I.ok.yk E,I.os,I.bare,I.base,I.loc,I.cell,I.free,I.lY,I.pin,I.hok,I.len⟩
theorem Inv.pN (I:Inv (X.yk E) pins σ H s):Inv X pins σ H s:=⟨I.ok.pN,I.os,I.bare,I.base,I.loc,I.cell,I.free,I.lY,I.pin,I.hok,I.len⟩
theorem SP.pN {D:Ends}{f:Flow}{s':hE}(h:SP (X.yk E) pins D f s'):SP X pins D f s':=by
 cases f with
 | next=>obtain⟨σ',H',I,q⟩:=h;exact⟨σ',H',I.pN,q⟩
 | brk=>obtain⟨σ',H',I,q⟩:=h;exact⟨σ',H',I.pN,q⟩
 | cont=>obtain⟨σ',H',I,q⟩:=h;exact⟨σ',H',I.pN,q⟩
 | ret u=>obtain⟨v,σ',H',I,r,q⟩:=h;exact⟨v,σ',H',I.pN,r,q⟩
theorem PSs.nox {st:List Stmt}{t:TS}(h:PSs X.nox st t):PSs X st t:=λ pins s σ H D I hw =>cv (h pins s σ H D (I.yk _) hw) (λ _ _ q=>q.pN) λ _ _ z=>False.elim z
end
section
variable {X:Cx}{st:Stmt}{rest:List Stmt}{t u:TS}{e:Expr}{te:TE}{pos:Pos}
def ES:TS:=λ D σ H=>D.nx σ H
def kL (t u:TS):TS:=λ D σ H=>t {D with nx:=u D} σ H
theorem ml:PSs X [] ES:=λ _ _ σ H _ I h=>fN ⟨σ,H,I,h⟩
theorem iH (h1:PS X st t)(h2:PSs X rest u):PSs X (st::rest) (kL t u):=by
 intro pins s σ H D I h;refine wpAny_execs_cons (thn (h1 pins s σ H {D with nx:=u D} I h) λ f s1 q=>?_);cases f with
 | next =>obtain⟨σ',H',I',q⟩:=q;exact h2 pins s1 σ' H' D I' q
 | ret v=>exact q
 | brk=>exact q
 | cont=>exact q
theorem jc (h1:PS X st t):PSs X [st] t:=by
 intro pins s σ H D I h;refine wpAny_execs_cons (thn (h1 pins s σ H D I h) λ f s1 q=>?_);cases f with
 | next=>exact fN q
 | ret v=>exact q
 | brk=>exact q
 | cont=>exact q
theorem Inv.quiet {pins:hJ}{σ:St}{H:Hp}{s:hE}(I:Inv X pins σ H s):interactive X.env=V1:=by simp[interactive,I.ok.kind]
def Bc (te:TE):TS:=λ D σ H=>te σ H λ _ H1=>D.nx σ H1
theorem r_ (he:PE X e te)(hs:swapsWith e My pos.line X.env=pure V1:=by rfl):PS X (.Expr e pos) (Bc te):=by intro pins s σ H D I h;exact wpAny_Expr_any (thn (he pins s σ H _ I h) λ v s1 ⟨x,H1,I1,r1,q1⟩=>⟨σ,H1,I1,q1⟩) I.quiet hs
def Gj (te:TE):TS:=λ D σ H=>te σ H D.rt
theorem lu (he:PE X e te):PS X (.Return (kb e) pos) (Gj te):=by intro pins s σ H D I h;exact wpAny_Return_some (thn (he pins s σ H _ I h) λ v s1 ⟨x,H1,I1,r1,q1⟩=>⟨x,σ,H1,I1,r1,q1⟩)
def Lp (c:TT)(t u:TS):TS:=λ D σ H=>c σ H λ b H1=>if b=V0 then t D σ H1 else u D σ H1
theorem uW {c:Expr}{a b:List Stmt}{tc:TT}(hc:PT X c tc)(ha:PSs X a t)(hb:PSs X b u):PS X (.If c a b pos) (Lp tc t u):=by
 intro pins s σ H D I h;refine wpAny_If (thn (hc pins s σ H _ I h) λ d s1 ⟨H1,I1,q1⟩=>?_);cases d with
 | true=>exact ha pins s1 σ H1 D I1 q1
 | false=>exact hb pins s1 σ H1 D I1 q1
end
abbrev TG:=V->St->Hp->(St->Hp->Prop)->Prop
abbrev TGs:=List V->St->Hp->(St->Hp->Prop)->Prop
def PG (X:Cx)(target:Expr)(t:TG):Prop :=
 ∀ (pins:hJ) (s:hE) (σ:St) (H:Hp) (v:V) (u:g_) (Q:St->Hp->Prop),Inv X pins σ H s->RelV v u->t v σ H Q ->
  wpAny (model X.prog X.w) X.A (assign target X.env u) (λ _ s'=>∃ σ' H',Inv X pins σ' H' s'/\Q σ' H') X.xe s
def PGs (X:Cx)(ts:List Expr)(t:TGs):Prop :=
 ∀ (pins:hJ) (s:hE) (σ:St) (H:Hp) (vs:List V) (us:List g_) (Q:St->Hp->Prop),Inv X pins σ H s->Vals vs us->t vs σ H Q ->
  wpAny (model X.prog X.w) X.A (assignInOrder ((assignEach ts X.env).map (·.2)) us) (λ _ s'=>∃ σ' H',Inv X pins σ' H' s'/\Q σ' H') X.xe s
abbrev OW:=V->V->V->Hp->(Hp->Prop)->Prop
def Rv (X:Cx)(t:OW):Prop :=
 ∀ (pins:hJ) (s:hE) (σ:St) (H:Hp) (o i v:V) (ov iv u:g_) (Q:Hp->Prop),Inv X pins σ H s->RelV o ov->RelV i iv->RelV v u->t o i v H Q ->
  wpAny (model X.prog X.w) X.A (setItem ov iv u) (λ _ s'=>∃ H',Inv X pins σ H' s'/\Q H') X.xe s
section
variable {X:Cx}{pos:Pos}
def je (i:Nat):TG:=λ v σ H Q=>Q (σ.set i (kb v)) H
theorem Lq {i:Nat}{x:Str}(hN:X.N.Nodup)(hi:X.N[i]?=kb x)(hx:Loc X.env.scope x)(hf:X.fn x=V0\/X.env.scope.names.lookup x=kb .local:=by trivial):PG X (.Name x pos) (je i):=by intro pins s σ H v u Q I r h;exact gf (nR I hN hi hx r (λ s' I'=>⟨_,H,I',h⟩) hf)
def Bd:TGs:=λ vs σ H Q=>vs=[]/\Q σ H
def nu (t:TG)(u:TGs):TGs:=λ vs σ H Q=>∃ v r,vs=v::r/\t v σ H λ σ' H'=>u r σ' H' Q
theorem kB:PGs X [] Bd:=by intro pins s σ H vs us Q I r h;obtain⟨e,h⟩:=h;subst e;cases r;exact assignInOrder_nil ⟨σ,H,I,h⟩
theorem i9 {e:Expr}{es:List Expr}{t:TG}{u:TGs}(h1:PG X e t)(h2:PGs X es u)
  (hs:(assignEach (e::es) X.env).map (·.2)=assign e X.env::(assignEach es X.env).map (·.2):=by rfl):PGs X (e::es) (nu t u):=by
 intro pins s σ H vs us Q I r h;obtain⟨v,vr,e1,h⟩:=h;subst e1;cases r with
 | cons r rr =>rw[hs];refine assignInOrder_cons (thn (h1 pins s σ H _ _ _ I r h) λ _ s1 ⟨σ1,H1,I1,q1⟩=>?_);exact h2 pins s1 σ1 H1 _ _ Q I1 rr q1
def Bf (K:g9)(n:Nat)(t:TGs):TG:=λ v σ H Q=>∃ a xs,v=.ref a/\SqT K H a xs/\xs.length=n/\t xs σ H Q
theorem lM {es:List Expr}{k:Nat}{t:TGs}{n:Nat}(hc:X.calm=V0)(h:PGs X es t)
  (hn:(assignEach es X.env).length=n:=by rfl) (hst:(assignEach es X.env).findIdx? (·.1)=My:=by rfl):PG X (.Tuple es k pos) (Bf X.K n t):=by
 intro pins s σ H v u Q I r hw;obtain⟨a,xs,e1,hq,hl,hw⟩:=hw;subst e1;cases r;obtain⟨its,rv,ht,hz⟩:=I.tuple hq;refine assign_Tuple_tuple (I.ok.hd hc) ht (by simp[hn,<-hl,rv.length]) hst λ h' hx=>?_;have I1:Inv X pins σ H {s with heap:=h'}:=I.kept (t':=s.toks) λ b o e=>hx b o (aU (aw e)) e;exact h pins _ σ H xs _ Q I1 (by simpa using rv) hw
def Lr (to ti:TE)(t:OW):TG:=λ v σ H Q=>to σ H λ o H1=>ti σ H1 λ i H2=>t o i v H2 λ H3=>Q σ H3
theorem zN {o i:Expr}{to ti:TE}{t:OW}(ho:PE X o to)(hi:PE X i ti)(hs:Rv X t)
  (ha:∀ v,assign (.Subscript o i pos) X.env v=(do
   let ov<-holding [v] (eval o X.env);let iv<-holding [v,ov] (eval i X.env)
   standAt pos
   holding [v,ov,iv] (setItem ov iv v)
   release [v,ov,iv] []):=by intro _;rfl):PG X (.Subscript o i pos) (Lr to ti t):=by
 intro pins s σ H v u Q I r h;rw[ha];refine aa (bT (thn (ho pins s σ H _ I h) λ ov s1 ⟨x,H1,I1,r1,q1⟩=>?_));refine aa (bT (thn (hi pins s1 σ H1 _ I1 q1) λ iv s2 ⟨y,H2,I2,r2,q2⟩=>?_));refine aa (cU (aa (bT (thn (hs pins s2 σ H2 x y v ov iv u _ I2 r1 r2 r q2) λ _ s3 ⟨H3,I3,q3⟩=>?_))));exact wpAny_release ⟨σ,H3,I3,q3⟩
def md (te:TE)(g:TG):TS:=λ D σ H=>te σ H λ x H1=>g x σ H1 D.nx
theorem tT {tg e:Expr}{te:TE}{g:TG}(he:PE X e te)(hg:PG X tg g)(hs:swapsWithSole [tg] e pos.line X.env=pure V1:=by rfl)(hw:swappedStores [tg] e X.env=pure My:=by rfl)
  (h1:(assignEach [tg] X.env).map (·.2)=[assign tg X.env]:=by rfl):PS X (.Assign [tg] e pos) (md te g):=by
 intro pins s σ H D I h;refine wpAny_Assign_stores (thn (he pins s σ H _ I h) λ v s1 ⟨x,H1,I1,r1,q1⟩=>?_) hs hw;rw[h1];exact thn (hg pins s1 σ H1 x v _ I1 r1 q1) λ _ s2 q=>q
theorem jn {i:Nat}{x:Str}{e:Expr}{te:TE}{pos':Pos}(hN:X.N.Nodup)(hi:X.N[i]?=kb x)(hx:Loc X.env.scope x)(he:PE X e te)(hs:swapsWith e (kb (.Name x pos')) pos.line X.env=pure V1:=by rfl)(hf:X.fn x=V0\/X.env.scope.names.lookup x=kb .local:=by trivial) :
  PS X (.Assign [.Name x pos'] e pos) (md te (je i)):=by
 intro pins s σ H D I h;refine wpAny_Assign_Name (thn (he pins s σ H _ I h) λ v s1 ⟨y,H1,I1,r1,q1⟩=>?_) hs;exact nR I1 hN hi hx r1 (λ s2 I2=>⟨_,H1,I2,q1⟩) hf
def Ue (i j:Nat)(ta:TA):TS:=λ D σ H=>ta σ H λ vs H1=>∃ v w,vs=[v,w]/\D.nx ((σ.set i (kb v)).set j (kb w)) H1
theorem OX {i j:Nat}{x y:Str}{a b:Expr}{ta:TA}{px py pt:Pos}{kt k2 pt2}(hc:X.calm=V0)(hN:X.N.Nodup)(hi:X.N[i]?=kb x)(hj:X.N[j]?=kb y)(hij:i≠j)
  (hx:X.env.scope.names.lookup x=kb .local) (hy:X.env.scope.names.lookup y=kb .local) (ha:PA X [a,b] ta)
  (hw:swappedStores [.Tuple [.Name x px,.Name y py] kt pt] (.Tuple [a,b] k2 pt2) X.env=pure (kb [x,y]))
  (hs:swapsWithSole [.Tuple [.Name x px,.Name y py] kt pt] (.Tuple [a,b] k2 pt2) pos.line X.env=pure V1:=by rfl) :
  PS X (.Assign [.Tuple [.Name x px,.Name y py] kt pt] (.Tuple [a,b] k2 pt2) pos) (Ue i j ta):=by
 intro pins s σ H D I h;rw[exec_Assign_arm];refine aa (cU ?_);rw[hs];refine aa (ah ?_);rw[ag (by decide)];refine aa (Tuple_ (thn (ha _ pins s σ H _ I h) λ us s1 ⟨vs,H1,I1,r1,q1⟩=>?_));obtain⟨v,w,e1,q1⟩:=q1;subst e1;obtain⟨u1,u2,rfl,rv,rw'⟩:∃ u1 u2,us=[u1,u2]/\RelV v u1/\RelV w u2:=by
  cases r1 with
  | cons p q =>
   cases q with
   | cons p' q' =>cases q';exact⟨_,_,rfl,p,p'⟩
 refine bL ?_ (by show 2<=sizeLine;decide);have I2:Inv X pins σ H1 {s1 with heap:=s1.heap.push {cls:=.type "tuple",data:=.seq [u1,u2].toArray}}:=I1.kept (t':=s1.toks) λ b o e=>ai _ e;rw[hw];refine aa (ah ?_);show wpAny (model X.prog X.w) X.A (do rule "assign.swapped-stores";let items<-unpackItems (.ref s1.heap.objs.size) 2 My;assignInOrder [λ v=>bindName X.env y v,λ v=>bindName X.env x v] items.reverse;pure Flow.next) _ _ _;refine aa (fu (aa (unpackItems_tuple (items:=#[u1,u2]) (I.ok.hd hc) (IsTup.new s1.heap _) λ h' hx'=>?_)));have I3:=I2.kept (h':=h') (t':=s1.toks) λ b o e=>hx' b o (aU (aw e)) e;show wpAny _ _ (assignInOrder [λ v=>bindName X.env y v,λ v=>bindName X.env x v] [u2,u1]>>=λ _=>pure Flow.next) _ _ _;refine aa (assignInOrder_cons (wpAny_bindName (nR I3 hN hj (.inl hy) rw' (λ s2 I4=>?_) (.inr hy))));refine assignInOrder_cons (wpAny_bindName (nR I4 hN hi (.inl hx) rv (λ s3 I5=>assignInOrder_nil (ah ?_)) (.inr hx)));rw[List.set_comm _ _ (aY hij)]at I5;exact⟨_,H1,I5,q1⟩
end
section
variable {X:Cx}{pos:Pos}
def C7 (c:TT)(tb:TS):TS:=λ D σ H=>∃ W:Nat->St->Hp->Prop,(∃ m,W m σ H)/\∀ m σ H,W m σ H ->
 c σ H λ b H1=>if b=V0 then ∃ N:St->Hp->Prop,(∀ σ' H',N σ' H'->∃ m',m'<m/\W m' σ' H')/\tb {D with nx:=N,ct:=N,bk:=D.nx} σ H1 else D.nx σ H1
theorem v9 {c:Expr}{body:List Stmt}{tc:TT}{tb:TS}(hp:PassesOwn (model X.prog X.w) X.A X.env X.xe)(hc:PT X c tc)(hb:PSs X body tb):PS X (.While c body [] pos) (C7 tc tb):=by
 intro pins s σ H D I h;obtain⟨W,⟨m0,w0⟩,turn⟩:=h;refine wpAny_While (codeAny_whileLoop (λ n s'=>∃ σ' H',Inv X pins σ' H' s'/\W n σ' H') ?_ m0 ⟨σ,H,I,w0⟩);rintro n s1 ⟨σ1,H1,I1,w1⟩;refine dH hp (thn (hc pins s1 σ1 H1 _ I1 (turn n σ1 H1 w1)) λ b s2 ⟨H2,I2,q2⟩=>?_);cases b with
 | true =>
  obtain⟨N,hN,q2⟩:=q2;rw[ae rfl];refine dH hp (thn (hb pins s2 σ1 H2 _ I2 q2) λ f s3 q3=>?_);cases f with
  | next =>obtain⟨σ3,H3,I3,n3⟩:=q3;obtain⟨m',hm,w3⟩:=hN σ3 H3 n3;exact⟨m',hm,σ3,H3,I3,w3⟩
  | cont =>obtain⟨σ3,H3,I3,n3⟩:=q3;obtain⟨m',hm,w3⟩:=hN σ3 H3 n3;exact⟨m',hm,σ3,H3,I3,w3⟩
  | brk=>exact q3
  | ret v=>exact q3
 | false =>rw[ag ax];exact fN ⟨σ1,H2,I2,q2⟩
end
structure It where
 go:Nat->Hp->Prop
 yld:Nat->Hp->V->Hp->Prop
 stop:Nat->Hp->Prop
def pO (X:Cx)(pins:hJ)(H:Hp)(b:Addr):Prop :=
 H b=My/\b≠X.env.locals/\b∉X.fs/\(b∈X.ex\/X.s₀.heap.objs.size<=b)/\(∀ x c,X.env.cells.lookup x=kb c->c≠b)/\∀ p∈X.pn++pins,p.1≠b
theorem Inv.HN {X:Cx}{pins:hJ}{σ:St}{H H':Hp}{s:hE}{b:Addr}(I:Inv X pins σ H s)(hb:s.heap.objs.size<=b)(hn:H' b=My):pO X pins H' b:=by
 refine⟨hn,bR (aB I.lt hb),I.Ua hb,.inr (bg I.sz hb),λ x c e z=>?_,λ p hp z=>?_⟩
 ·obtain⟨v,q⟩:=I.cell x c e;exact absurd (aB q.lt (by rw[z];exact hb)) (aX _)
 ·exact absurd (aB (aw (I.pin p hp).1) (by rw[z];exact hb)) (aX _)
structure Turn (P:Program)(w:World)(K:g9)(tg:Expr)(J:It)(fp:List Addr)(it:Addr)(tn:Nat->Heap->Prop):Prop where
 mem:it∈fp
 obj:∀ i h,tn i h->∀ b∈fp,∃ o,h.get? b=kb o/\∀ v,o.data≠.cell v
 keep:∀ i h h',tn i h->(∀ b∈fp,∀ o,h.get? b=kb o->h'.get? b=kb o)->tn i h'
 item:∀ (X:Cx),X.prog=P->X.w=w->X.K=K->X.calm=V0->∀ (i:Nat) (pins:hJ) (s:hE) (σ:St) (H:Hp) (E:g0),Inv X pins σ H s->(∀ b∈fp,pO X pins H b)->tn i s.heap->J.go i H ->
  wpAny (model P w) X.A (pyNext (.ref it)) (λ r s1=>∃ u,r=kb u /\
   wpAny (model P w) X.A (letOwnedTupleGo tg (.ref it) u) (λ _ s2=>∃ x H',Inv X pins σ H' s2/\RelV x u/\J.yld i H x H'/\tn (i+1) s2.heap/\∀ b∈fp,H' b=My) E s1) E s
 done:∀ (X:Cx),X.prog=P->X.w=w->X.K=K->X.calm=V0->∀ (i:Nat) (pins:hJ) (s:hE) (σ:St) (H:Hp) (E:g0),Inv X pins σ H s->(∀ b∈fp,pO X pins H b)->tn i s.heap->J.stop i H ->
  wpAny (model P w) X.A (pyNext (.ref it)) (λ r s1=>r=My/\Inv X pins σ H s1) E s
 self:∀ (A:Around) (i:Nat) (s:hE) (Q:g0) (E:g0),tn i s.heap->Q (.ref it) s->wpAny (model P w) A (pyIter (.ref it)) Q E s
abbrev TI:=St->Hp->(It->Hp->Prop)->Prop
def PIE (X:Cx)(pins:hJ)(σ:St)(tg:Expr)(R:It->Hp->Prop)(itv:g_)(s2:hE):Prop :=
 ∃ (it:Addr) (fp:List Addr) (tn:Nat->Heap->Prop) (J:It) (H':Hp),itv=.ref it/\Inv X pins σ H' s2/\Turn X.prog X.w X.K tg J fp it tn/\tn 0 s2.heap/\(∀ b∈fp,pO X pins H' b)/\R J H'
def PI (X:Cx)(tg iter:Expr)(wi:TI):Prop :=
 ∀ (pins:hJ) (s:hE) (σ:St) (H:Hp) (R:It->Hp->Prop),Inv X pins σ H s->wi σ H R ->
  wpAny (model X.prog X.w) X.A (eval iter X.env) (λ v s1=>wpAny (model X.prog X.w) X.A (pyIter v) (PIE X pins σ tg R) X.xe s1) X.xe s
theorem HP {M : Model}{A : Around}{E : g_ -> hE -> Prop}{s : hE}{tg : Expr}{it : Addr}{u : g_}{o : Obj}{n : String}{vs : Array g_}{Q : Unit -> hE -> Prop}(ho : s.heap.get? it = kb o)(hc : o.cls = .type n)(hd : o.data = .fields vs)
    (hn : ["enumerate", "zip", "dict_itemiterator", "dict_reverseitemiterator", "odict_iterator", "itertools.zip_longest", "itertools.pairwise"].contains n = V1) (hQ : Q () s) : wpAny M A (letOwnedTupleGo tg (.ref it) u) Q E s := by
  unfold letOwnedTupleGo;cases tg <;> first
    | exact ah hQ
    | (cases u <;> first
        | exact ah hQ
        | (refine aa (wpAny_load ho ?_)
           rw[hc, hd];show wpAny M A (if (["enumerate", "zip", "dict_itemiterator", "dict_reverseitemiterator", "odict_iterator", "itertools.zip_longest", "itertools.pairwise"].contains n && vs[0]? == kb (rawInt _)) = V0 then _ else _) Q E s;rw[ag (by intro h; rw[hn, gS]at h; cases h)];exact ah hQ))
def Itl (K:g9)(a:Addr):It :=
 ⟨λ i H=>∃ xs x,SqL K H a xs/\xs[i]?=kb x,λ i H x H'=>H'=H/\∀ xs,SqL K H a xs->xs[i]?=kb x,λ i H=>∃ xs,SqL K H a xs/\xs.length<=i⟩
def Itt (K:g9)(a:Addr):It :=
 ⟨λ i H=>∃ xs x,SqT K H a xs/\xs[i]?=kb x,λ i H x H'=>H'=H/\∀ xs,SqT K H a xs->xs[i]?=kb x,λ i H=>∃ xs,SqT K H a xs/\xs.length<=i⟩
def Itr (lo:Int)(n:Nat):It:=⟨λ i _=>i<n,λ i H x H'=>H'=H/\x=.int (lo+i),λ i _=>n<=i⟩
theorem Gk {P:Program}{w:World}{K:g9}{tg:Expr}(a it:Addr):Turn P w K tg (Itl K a) [it] it (λ i h=>h.IsListIter it a i) where
 mem:=by simp
 obj:=λ i h st b hb=>by
  have e:b=it:=by simpa using hb
  subst e;obtain⟨o,e,c,d⟩:=st;exact⟨o,e,λ v z=>by rw[d]at z;cases z⟩
 keep:=λ i h h' st k=>st.at λ o e=>k it (by simp) o e
 item:=by intro X hP hw hK hc i pins s σ H E I hf st hg;subst hP hw hK;obtain⟨xs,x,hq,hx⟩:=hg;obtain⟨its,rv,p,hz⟩:=I.list hq;obtain⟨u,hu,ru⟩:=rv.get hx;obtain⟨f0,f1,f2,f3,f4,f5⟩:=hf it (by simp);refine wpAny_pyNext_list_item st p.isList (x:=u) (by simpa using hu) λ h' st' sb=>?_;have I1:Inv X pins σ H {s with heap:=h'}:=I.turned (t':=s.toks) (λ b o hb e=>(sb.2 b hb).trans e) f0 f1 f3 f4 f5;obtain⟨o,e,c,d⟩:=id st';exact⟨u,rfl,HP (s:={s with heap:=h'}) e c d (by decide) ⟨x,H,I1,ru,⟨rfl,λ ys hy=>by rw[I.Bb hy hq];exact hx⟩,st',λ b hb=>(hf b hb).1⟩⟩
 done:=by intro X hP hw hK hc i pins s σ H E I hf st hg;subst hP hw hK;obtain⟨xs,hq,hx⟩:=hg;obtain⟨its,rv,p,hz⟩:=I.list hq;obtain⟨f0,f1,f2,f3,f4,f5⟩:=hf it (by simp);have hl:=rv.length;exact wpAny_pyNext_list_end (I.ok.hd hc) st p.isList (by simp;lia) λ h' eb=>⟨rfl,I.turned (t':=s.toks) (λ b o hb e=>eb b o hb e) f0 f1 f3 f4 f5⟩
 self:=λ _ _ _ _ _ st h=>wpAny_pyIter_listiter st h
theorem C8 {P:Program}{w:World}{K:g9}{tg:Expr}(a it:Addr):Turn P w K tg (Itt K a) [it] it (λ i h=>h.IsTupleIter it a i) where
 mem:=by simp
 obj:=λ i h st b hb=>by
  have e:b=it:=by simpa using hb
  subst e;obtain⟨o,e,c,d⟩:=st;exact⟨o,e,λ v z=>by rw[d]at z;cases z⟩
 keep:=λ i h h' st k=>st.at λ o e=>k it (by simp) o e
 item:=by intro X hP hw hK hc i pins s σ H E I hf st hg;subst hP hw hK;obtain⟨xs,x,hq,hx⟩:=hg;obtain⟨its,rv,p,hz⟩:=I.tuple hq;obtain⟨u,hu,ru⟩:=rv.get hx;obtain⟨f0,f1,f2,f3,f4,f5⟩:=hf it (by simp);refine wpAny_pyNext_tuple_item st (show s.heap.IsTuple a its.toArray from p) (x:=u) (by simpa using hu) λ h' st' sb=>?_;have I1:Inv X pins σ H {s with heap:=h'}:=I.turned (t':=s.toks) (λ b o hb e=>(sb.2 b hb).trans e) f0 f1 f3 f4 f5;obtain⟨o,e,c,d⟩:=id st';exact⟨u,rfl,HP (s:={s with heap:=h'}) e c d (by decide) ⟨x,H,I1,ru,⟨rfl,λ ys hy=>by rw[I.nS hy hq];exact hx⟩,st',λ b hb=>(hf b hb).1⟩⟩
 done:=by intro X hP hw hK hc i pins s σ H E I hf st hg;subst hP hw hK;obtain⟨xs,hq,hx⟩:=hg;obtain⟨its,rv,p,hz⟩:=I.tuple hq;obtain⟨f0,f1,f2,f3,f4,f5⟩:=hf it (by simp);have hl:=rv.length;exact wpAny_pyNext_tuple_end (I.ok.hd hc) st (show s.heap.IsTuple a its.toArray from p) (by simp;lia) λ h' eb=>⟨rfl,I.turned (t':=s.toks) (λ b o hb e=>eb b o hb e) f0 f1 f3 f4 f5⟩
 self:=λ _ _ _ _ _ st h=>wpAny_pyIter_tupleiter st h
theorem C9 {P:Program}{w:World}{K:g9}{tg:Expr}(it:Addr)(lo:Int)(n:Nat):Turn P w K tg (Itr lo n) [it] it (λ i h=>IsRangeIter h it (lo+(i:Nat)*1) ((n:Int)-(i:Nat)) 1) where
 mem:=by simp
 obj:=λ i h st b hb=>by
  have e:b=it:=by simpa using hb
  subst e;exact⟨_,st,λ v z=>by have z':Data.fields _=Data.cell v:=z;cases z'⟩
 keep:=λ i h h' st k=>k it (by simp) _ st
 item:=by intro X hP hw hK hc i pins s σ H E I hf st hg;subst hP hw hK;obtain⟨f0,f1,f2,f3,f4,f5⟩:=hf it (by simp);have W:=Walks.range (prog:=X.prog) (w:=X.w) (I.ok.hd hc) it lo 1 n;refine W.item i s _ _ hg st λ v h' tk hv st' kk=>?_;obtain⟨t,rfl⟩:=hv;have I1:Inv X pins σ H {s with heap:=h',toks:=tk}:=I.turned (λ b o hb e=>kk b o (by simpa using hb) e) f0 f1 f3 f4 f5;refine⟨_,rfl,HP (s:={s with heap:=h',toks:=tk}) (n:="range_iterator") st' rfl rfl (by decide) ⟨.int (lo+i),H,I1,⟨t,?_⟩,⟨rfl,rfl⟩,st',λ b hb=>(hf b hb).1⟩⟩;rw[Int.mul_one]
 done:=by intro X hP hw hK hc i pins s σ H E I hf st hg;subst hP hw hK;obtain⟨f0,f1,f2,f3,f4,f5⟩:=hf it (by simp);exact wpAny_pyNext_range_end (I.ok.hd hc) st (by have:n<=i:=hg;lia) λ h' eb=>⟨rfl,I.turned (t':=s.toks) (λ b o hb e=>eb b o hb e) f0 f1 f3 f4 f5⟩
 self:=λ _ _ _ _ _ st h=>wpAny_pyIter_rangeiter st h
section
variable {X:Cx}{tg:Expr}
def HQ (K:g9)(tl:TE):TI:=λ σ H R=>tl σ H λ x H1=>∃ a,x=.ref a/\(∃ xs,SqL K H1 a xs)/\R (Itl K a) H1
def Ug (K:g9)(tl:TE):TI:=λ σ H R=>tl σ H λ x H1=>∃ a,x=.ref a/\(∃ xs,SqT K H1 a xs)/\R (Itt K a) H1
theorem zO {l:Expr}{tl:TE}(hl:PE X l tl):PI X tg l (HQ X.K tl):=by
 intro pins s σ H R I h;refine thn (hl pins s σ H _ I h) λ v s1 ⟨x,H1,I1,r1,q1⟩=>?_;obtain⟨a,e,⟨xs,hq⟩,q⟩:=q1;subst e;cases r1;obtain⟨its,rv,p,hz⟩:=I1.list hq;refine fc p.isList ?_;refine⟨s1.heap.objs.size,[s1.heap.objs.size],_,_,H1,rfl,I1.kept (t':=s1.toks) λ b o e=>ai _ e,Gk a _,⟨_,aK _ rfl,rfl,rfl⟩,λ b hb=>?_,q⟩;have e:b=s1.heap.objs.size:=by simpa using hb
 subst e;exact I1.HN (aq _) (I1.hok.fresh (aq _))
theorem HR {l:Expr}{tl:TE}(hl:PE X l tl):PI X tg l (Ug X.K tl):=by
 intro pins s σ H R I h;refine thn (hl pins s σ H _ I h) λ v s1 ⟨x,H1,I1,r1,q1⟩=>?_;obtain⟨a,e,⟨xs,hq⟩,q⟩:=q1;subst e;cases r1;obtain⟨its,rv,p,hz⟩:=I1.tuple hq;refine wpAny_pyIter_tuple (show s1.heap.IsTuple a its.toArray from p) ?_;refine⟨s1.heap.objs.size,[s1.heap.objs.size],_,_,H1,rfl,I1.kept (t':=s1.toks) λ b o e=>ai _ e,C8 a _,⟨_,aK _ rfl,rfl,rfl⟩,λ b hb=>?_,q⟩;have e:b=s1.heap.objs.size:=by simpa using hb
 subst e;exact I1.HN (aq _) (I1.hok.fresh (aq _))
theorem Bg {pins:hJ}{σ:St}{H:Hp}{s:hE}{R:It->Hp->Prop}{E:g0}{lo hi:Int}{t u v:Tok}{tk:Nat}(I:Inv X pins σ H s)(h1:-(2 ^ 62)<=lo)(h2:lo<2 ^ 62)(h3:-(2 ^ 62)<=hi)(h4:hi<2 ^ 62)
  (q:R (Itr lo (hi-lo).toNat) H):wpAny (model X.prog X.w) X.A (pyIter (.ref s.heap.objs.size)) (PIE X pins σ tg R) E {s with heap:=s.heap.push {cls:=.type "range",data:=.fields #[.int lo t,.int hi u,.int 1 v]},toks:=tk}:=by
 refine wpAny_pyIter_range (IsRange.new ..) (small_one h1 h2 h3 h4) ?_;have I1:Inv X pins σ H {s with heap:=s.heap.push {cls:=.type "range",data:=.fields #[.int lo t,.int hi u,.int 1 v]},toks:=tk}:=I.kept λ b o e=>ai _ e;refine⟨(s.heap.push {cls:=.type "range",data:=.fields #[.int lo t,.int hi u,.int 1 v]}).objs.size,[(s.heap.push {cls:=.type "range",data:=.fields #[.int lo t,.int hi u,.int 1 v]}).objs.size],_,_,H,rfl,
  I1.kept (t':=tk) λ b o e=>ai _ e,C9 _ lo (hi-lo).toNat,?_,λ b hb=>?_,q⟩
 ·have e1:lo+((0:Nat):Int)*1=lo:=by simp
  have e2:(((hi-lo).toNat:Nat):Int)-((0:Nat):Int)=Builtin.Range.rangeSize lo hi 1:=by rw[rangeSize_one];split<;>lia
  show IsRangeIter _ _ (lo+((0:Nat):Int)*1) ((((hi-lo).toNat:Nat):Int)-((0:Nat):Int)) 1;rw[e1,e2];exact aK _ rfl
 ·have e:b=(s.heap.push {cls:=.type "range",data:=.fields #[.int lo t,.int hi u,.int 1 v]}).objs.size:=by simpa using hb
  subst e;exact I1.HN (aq _) (I1.hok.fresh (aq _))
def ET (ta:TA):TI:=λ σ H R=>ta σ H λ vs H1=>∃ j:Int,vs=[.int j]/\-(2 ^ 62)<=j/\j<2 ^ 62/\R (Itr 0 j.toNat) H1
def NB (ta:TA):TI:=λ σ H R=>ta σ H λ vs H1=>∃ i j:Int,vs=[.int i,.int j]/\(-(2 ^ 62)<=i/\i<2 ^ 62/\-(2 ^ 62)<=j/\j<2 ^ 62)/\R (Itr i (j-i).toNat) H1
theorem mB {a:Expr}{ta:TA}{p pos:Pos}(hg:Gl X "range")(hm:X.mg "range"=My)(ha:PA X [a] ta)(hs:starEach [a] X.env=[(V1,eval a X.env)]:=by rfl):PI X tg (.Call (.Name "range" p) [a] [] pos) (ET ta):=by
 intro pins s σ H R I h;refine Call_ (rq I hg hm boot_range (cF (thn (ha pos pins s σ H _ I h) λ us s1 ⟨vs,H1,I1,r1,q1⟩=>?_) hs rfl));obtain⟨j,e,q1,q2,q⟩:=q1;subst e;cases r1 with
 | cons r rr =>cases rr;obtain⟨t,rfl⟩:=r;exact call_range_1 (Bg I1 (by lia) (by lia) q1 q2 (by simpa using q))
theorem yL {a b:Expr}{ta:TA}{p pos:Pos}(hg:Gl X "range")(hm:X.mg "range"=My)(ha:PA X [a,b] ta)(hs:starEach [a,b] X.env=[(V1,eval a X.env),(V1,eval b X.env)]:=by rfl)(hs2:starEach [b] X.env=[(V1,eval b X.env)]:=by rfl) :
  PI X tg (.Call (.Name "range" p) [a,b] [] pos) (NB ta):=by
 intro pins s σ H R I h;refine Call_ (rq I hg hm boot_range (cF (thn (ha pos pins s σ H _ I h) λ us s1 ⟨vs,H1,I1,r1,q1⟩=>?_) (by rw[hs,hs2]) (by rw[hs2];rfl)));obtain⟨i,j,e,⟨q1,q2,q3,q4⟩,q⟩:=q1;subst e;cases r1 with
 | cons r rr =>
  cases rr with
  | cons r' rr =>cases rr;obtain⟨t,rfl⟩:=r;obtain⟨t',rfl⟩:=r';exact call_range_2 (Bg I1 q1 q2 q3 q4 q)
def C_ (wi:TI)(g:TG)(tb:TS):TS:=λ D σ H=>wi σ H λ J H1=>∃ W:Nat->Nat->St->Hp->Prop,(∃ m,W 0 m σ H1)/\∀ i m σ H,W i m σ H ->
 (J.stop i H/\D.nx σ H)\/(J.go i H/\∃ N:St->Hp->Prop,(∀ σ' H',N σ' H'->∃ m',m'<m/\W (i+1) m' σ' H')/\∀ x H',J.yld i H x H'->g x σ H' λ σ2 H2=>tb {D with nx:=N,ct:=N,bk:=D.nx} σ2 H2)
def lN (fp:List Addr)(h:Heap):hJ:=fp.filterMap λ b=>(h.get? b).map λ o=>(b,o)
theorem jV {fp:List Addr}{h:Heap}{b:Addr}{o:Obj}(hb:b∈fp)(e:h.get? b=kb o):(b,o)∈lN fp h:=du.mpr ⟨b,hb,by rw[e];rfl⟩
theorem yM {fp:List Addr}{h:Heap}{p:Addr×Obj}(hp:p∈lN fp h):p.1∈fp/\h.get? p.1=kb p.2:=by
 obtain⟨b,hb,e⟩:=du.mp hp;cases q:h.get? b with
 | none=>rw[q]at e;cases e
 | some o =>rw[q]at e;have e':(b,o)=p:=aF e;subst e';exact⟨hb,q⟩
theorem Inv.pinned {pins:hJ}{σ:St}{H:Hp}{s:hE}{fp:List Addr}(I:Inv X pins σ H s)(hf:∀ b∈fp,pO X pins H b)(ho:∀ b∈fp,∃ o,s.heap.get? b=kb o/\∀ v,o.data≠.cell v):Inv X (pins++lN fp s.heap) σ H s :=
 I.mj λ p hp=>(bh.mp hp).elim (λ z=>I.pin p (ao _ z)) λ z=>by obtain⟨hb,e⟩:=yM z;obtain⟨f0,f1,f2,_⟩:=hf p.1 hb;obtain⟨o,e',d⟩:=ho p.1 hb;rw[e]at e';cases e';exact⟨e,f0,f1,f2,d⟩
theorem Inv.nU {pins pl:hJ}{σ:St}{H:Hp}{s:hE}(I:Inv X (pins++pl) σ H s):Inv X pins σ H s:=I.mj λ p hp=>I.pin p (ao _ (aM _ hp))
theorem oH {iter:Expr}{body:List Stmt}{wi:TI}{g:TG}{tb:TS}{pos:Pos}(hp:PassesOwn (model X.prog X.w) X.A X.env X.xe)(hc:X.calm=V0)(hi:PI X tg iter wi)(hg:PG X tg g)(hb:PSs X body tb)
  (hs:∀ x,foldedSetIterable iter X.env x=pure x:=by intro _;rfl):PS X (.For tg iter body [] pos) (C_ wi g tb):=by
 intro pins s σ H D I h;refine wpAny_For (thn (hi pins s σ H _ I h) λ v s1 h1=>thn h1 λ itv s2 h2=>?_) hs;obtain⟨it,fp,tn,J,H2,e,I2,T,st2,f2,W,⟨m0,w0⟩,turn⟩:=h2;subst e;have stat:∀ {H':Hp},(∀ b∈fp,H' b=My)->∀ b∈fp,pO X pins H' b:=λ hn b hb=>⟨hn b hb,(f2 b hb).2⟩;refine codeAny_forLoop_any (λ n s'=>∃ i σ' H',Inv X pins σ' H' s'/\tn i s'.heap/\(∀ b∈fp,H' b=My)/\W i n σ' H') ?_ m0 ⟨0,σ,H2,I2,st2,λ b hb=>(f2 b hb).1,w0⟩;rintro n s3 ⟨i,σ3,H3,I3,st3,fr3,w3⟩;rcases turn i n σ3 H3 w3 with⟨stop,qn⟩ | ⟨go,N,hN,step⟩
 ·refine dH hp (thn (T.done X rfl rfl rfl hc i pins s3 σ3 H3 X.xe I3 (stat fr3) st3 stop) λ r s4 ⟨hr,I4⟩=>?_);subst hr;exact fN ⟨σ3,H3,I4,qn⟩
 ·refine dH hp (thn (T.item X rfl rfl rfl hc i pins s3 σ3 H3 X.xe I3 (stat fr3) st3 go) λ r s4 ⟨u,hr,h4⟩=>?_)
  subst hr;refine dH hp (thn h4 λ _ s5 ⟨x,H5,I5,r5,y5,st5,fr5⟩=>?_);have I5':=I5.pinned (stat fr5) (T.obj _ _ st5);refine dH hp (thn (hg _ s5 σ3 H5 x u _ I5' r5 (step x H5 y5)) λ _ s6 ⟨σ6,H6,I6,q6⟩=>?_);refine dH hp (thn (hb _ s6 σ6 H6 _ I6 q6) λ f s7 q7=>?_);have again:∀ {σ7:St} {H7:Hp},Inv X (pins++lN fp s5.heap) σ7 H7 s7->N σ7 H7->∃ m,m<n/\∃ i σ' H',Inv X pins σ' H' s7/\tn i s7.heap/\(∀ b∈fp,H' b=My)/\W i m σ' H':=λ{σ7 H7} I7 n7=>by obtain⟨m',hm,w7⟩:=hN σ7 H7 n7;refine⟨m',hm,i+1,σ7,H7,I7.nU,T.keep _ _ _ st5 λ b hb o e=>(I7.pin (b,o) (ao _ (ao _ (jV hb e)))).1,λ b hb=>?_,w7⟩;obtain⟨o,e,d⟩:=T.obj _ _ st5 b hb;exact(I7.pin (b,o) (ao _ (ao _ (jV hb e)))).2.1
  cases f with
  | next=>obtain⟨σ7,H7,I7,n7⟩:=q7;exact again I7 n7
  | cont=>obtain⟨σ7,H7,I7,n7⟩:=q7;exact again I7 n7
  | brk=>obtain⟨σ7,H7,I7,q7⟩:=q7;exact⟨σ7,H7,I7.nU,q7⟩
  | ret v=>obtain⟨x7,σ7,H7,I7,r7,q7⟩:=q7;exact⟨x7,σ7,H7,I7.nU,r7,q7⟩
end
theorem HS {K:g9}{a:Addr}{xs:List V}{g:TG}{tb:TS}{D:Ends}{σ:St}{H:Hp}(Pv:Nat->St->Hp->Prop)(h0:Pv 0 σ H)(hl:∀ i σ H,i<=xs.length->Pv i σ H->SqL K H a xs)
  (hs:∀ i x σ H,xs[i]?=kb x->Pv i σ H->g x σ H λ σ2 H2=>tb {D with nx:=Pv (i+1),ct:=Pv (i+1),bk:=D.nx} σ2 H2) (hd:∀ σ H,Pv xs.length σ H->D.nx σ H) :
  ∃ W:Nat->Nat->St->Hp->Prop,(∃ m,W 0 m σ H)/\∀ i m σ H,W i m σ H ->
   ((Itl K a).stop i H/\D.nx σ H)\/((Itl K a).go i H/\∃ N:St->Hp->Prop,(∀ σ' H',N σ' H'->∃ m',m'<m/\W (i+1) m' σ' H')/\∀ x H',(Itl K a).yld i H x H'->g x σ H' λ σ2 H2=>tb {D with nx:=N,ct:=N,bk:=D.nx} σ2 H2):=by
 refine⟨λ i m σ H=>m=xs.length-i/\i<=xs.length/\Pv i σ H,⟨xs.length,by simp,aZ _,h0⟩,?_⟩;rintro i m σ H ⟨rfl,hi,p⟩;have q:=hl i σ H hi p;by_cases hlt:i<xs.length
 ·refine .inr ⟨⟨xs,xs[i],q,by simp[hlt]⟩,Pv (i+1),λ σ' H' p'=>⟨xs.length-(i+1),by lia,rfl,hlt,p'⟩,λ x H' y=>?_⟩;obtain⟨e,y⟩:=y;subst e;exact hs i x σ _ (y xs q) p
 ·have e:i=xs.length:=by lia
  subst e;exact .inl ⟨⟨xs,q,aq _⟩,hd σ H p⟩
theorem nV {lo:Int}{n:Nat}{g:TG}{tb:TS}{D:Ends}{σ:St}{H:Hp}(Pv:Nat->St->Hp->Prop)(h0:Pv 0 σ H)
  (hs:∀ i σ H,i<n->Pv i σ H->g (.int (lo+i)) σ H λ σ2 H2=>tb {D with nx:=Pv (i+1),ct:=Pv (i+1),bk:=D.nx} σ2 H2) (hd:∀ σ H,Pv n σ H->D.nx σ H) :
  ∃ W:Nat->Nat->St->Hp->Prop,(∃ m,W 0 m σ H)/\∀ i m σ H,W i m σ H ->
   ((Itr lo n).stop i H/\D.nx σ H)\/((Itr lo n).go i H/\∃ N:St->Hp->Prop,(∀ σ' H',N σ' H'->∃ m',m'<m/\W (i+1) m' σ' H')/\∀ x H',(Itr lo n).yld i H x H'->g x σ H' λ σ2 H2=>tb {D with nx:=N,ct:=N,bk:=D.nx} σ2 H2):=by
 refine⟨λ i m σ H=>m=n-i/\i<=n/\Pv i σ H,⟨n,by simp,aZ _,h0⟩,?_⟩;rintro i m σ H ⟨rfl,hi,p⟩;by_cases hlt:i<n
 ·refine .inr ⟨hlt,Pv (i+1),λ σ' H' p'=>⟨n-(i+1),by lia,rfl,hlt,p'⟩,λ x H' y=>?_⟩;obtain⟨e,y⟩:=y;subst e y;exact hs i σ _ hlt p
 ·have e:i=n:=by lia
  subst e;exact .inl ⟨aq _,hd σ H p⟩
theorem Bh {c:TT}{tb:TS}{D:Ends}{σ:St}{H:Hp}(Pv:St->Hp->Prop)(μ:St->Hp->Nat)(h0:Pv σ H)
  (hs:∀ σ H,Pv σ H->c σ H λ b H1=>if b=V0 then tb {D with nx:=λ σ' H'=>Pv σ' H'/\μ σ' H'<μ σ H,ct:=λ σ' H'=>Pv σ' H'/\μ σ' H'<μ σ H,bk:=D.nx} σ H1 else D.nx σ H1)
  (mono:∀ σ H Q Q',(∀ b H1,Q b H1->Q' b H1)->c σ H Q->c σ H Q'):C7 c tb D σ H:=by
 refine⟨λ m σ H=>m=μ σ H/\Pv σ H,⟨_,rfl,h0⟩,?_⟩;rintro m σ H ⟨rfl,p⟩;refine mono σ H _ _ (λ b H1 q=>?_) (hs σ H p);cases b with
 | true=>exact⟨_,λ σ' H' ⟨p',l⟩=>⟨_,l,rfl,p'⟩,q⟩
 | false=>exact q
abbrev R2:=V->V->Hp->VK->Prop
def OpR (X:Cx)(f:g_->g_->Sem g_)(r:R2):Prop :=
 ∀ (pins:hJ) (s:hE) (σ:St) (H:Hp) (x y:V) (v u:g_) (Q:VK),Inv X pins σ H s->RelV x v->RelV y u->r x y H Q ->
  wpAny (model X.prog X.w) X.A (f v u) (EP X pins σ Q) X.xe s
def UnR (X:Cx)(f:g_->Sem g_)(r:V->Hp->VK->Prop):Prop :=
 ∀ (pins:hJ) (s:hE) (σ:St) (H:Hp) (x:V) (v:g_) (Q:VK),Inv X pins σ H s->RelV x v->r x H Q ->
  wpAny (model X.prog X.w) X.A (f v) (EP X pins σ Q) X.xe s
def j3 (X:Cx)(f:g_)(r:List V->Hp->VK->Prop):Prop :=
 ∀ (pins:hJ) (s:hE) (σ:St) (H:Hp) (xs:List V) (us:List g_) (Q:VK),Inv X pins σ H s->Vals xs us->r xs H Q ->
  wpAny (model X.prog X.w) X.A (call f us) (EP X pins σ Q) X.xe s
def Uh (X:Cx)(r:V->Hp->(Bool->Hp->Prop)->Prop):Prop :=
 ∀ (pins:hJ) (s:hE) (σ:St) (H:Hp) (x:V) (v:g_) (Q:Bool->Hp->Prop),Inv X pins σ H s->RelV x v->r x H Q ->
  wpAny (model X.prog X.w) X.A (truthy v) (TP X pins σ Q) X.xe s
def tOp (r:R2)(ta tb:TE):TE:=λ σ H Q=>ta σ H λ x H1=>tb σ H1 λ y H2=>r x y H2 Q
def tUn (r:V->Hp->VK->Prop)(ta:TE):TE:=λ σ H Q=>ta σ H λ x H1=>r x H1 Q
def rI (C:Int->Int->Prop)(g:Int->Int->V):R2:=λ x y H Q=>∃ i j,x=.int i/\y=.int j/\C i j/\Q (g i j) H
def rI0 (g:Int->Int->V):R2:=λ x y H Q=>∃ i j,x=.int i/\y=.int j/\Q (g i j) H
def rU (g:Int->V):V->Hp->VK->Prop:=λ x H Q=>∃ i,x=.int i/\Q (g i) H
section
variable {X:Cx}{a b c:Expr}{ta tb tc:TE}{pos:Pos}
theorem OY (ha:PE X a ta)(hb:PE X b tb){pins:hJ}{s:hE}{σ:St}{H:Hp}{R:V->V->Hp->Prop}(I:Inv X pins σ H s)
  (h:ta σ H λ x H1=>tb σ H1 λ y H2=>R x y H2) {Q:g0} {f:g_->g_->Sem g_}
  (hf:∀ v u s2 x y H2,Inv X pins σ H2 s2->RelV x v->RelV y u->R x y H2->wpAny (model X.prog X.w) X.A (f v u) Q X.xe s2) :
  wpAny (model X.prog X.w) X.A (eval a X.env) (λ v s₁=>wpAny (model X.prog X.w) X.A (eval b X.env) (λ u s₂=>wpAny (model X.prog X.w) X.A (f v u) Q X.xe s₂) X.xe s₁) X.xe s:=by
 refine thn (ha pins s σ H _ I h) λ v s1 ⟨x,H1,I1,r1,q1⟩=>?_;refine thn (hb pins s1 σ H1 _ I1 q1) λ u s2 ⟨y,H2,I2,r2,q2⟩=>?_;exact hf v u s2 x y H2 I2 r1 r2 q2
theorem jD {op:Operator}{r:R2}(ho:OpR X (binaryOp op) r)(ha:PE X a ta)(hb:PE X b tb):PE X (.BinOp a op b pos) (tOp r ta tb):=by intro pins s σ H Q I h;exact wpAny_BinOp (OY ha hb I h λ v u s2 x y H2 I2 rx ry q=>ho pins s2 σ H2 x y v u Q I2 rx ry q)
theorem Rx {op:UnaryOp}{r:V->Hp->VK->Prop}(ho:UnR X (unaryOp op) r)(ha:PE X a ta):PE X (.UnaryOp op a pos) (tUn r ta):=by intro pins s σ H Q I h;exact UnaryOp_ (thn (ha pins s σ H _ I h) λ v s1 ⟨x,H1,I1,r1,q1⟩=>ho pins s1 σ H1 x v Q I1 r1 q1)
theorem opI {f:g_->g_->Sem g_}{C:Int->Int->Prop}{g:Int->Int->Int}
  (rule:∀ (i j:Int) (t u:Tok) (s:hE) (Q:g0) (E:g0),C i j->Q (.int (g i j) s.toks) {s with toks:=s.toks+1}->wpAny (model X.prog X.w) X.A (f (.int i t) (.int j u)) Q E s) :
  OpR X f (rI C λ i j=>.int (g i j)):=by
 intro pins s σ H x y v u Q I rx ry h;obtain⟨i,j,rfl,rfl,hc,q⟩:=h;obtain⟨t,rfl⟩:=rx;obtain⟨t',rfl⟩:=ry;exact rule i j t t' s _ _ hc ⟨.int (g i j),H,I.tok _,⟨_,rfl⟩,q⟩
theorem Ry {f:g_->g_->Sem g_}{g:Int->Int->Int}
  (rule:∀ (i j:Int) (t u:Tok) (s:hE) (Q:g0) (E:g0),Q (.int (g i j) s.toks) {s with toks:=s.toks+1}->wpAny (model X.prog X.w) X.A (f (.int i t) (.int j u)) Q E s) :
  OpR X f (rI0 λ i j=>.int (g i j)):=by
 intro pins s σ H x y v u Q I rx ry h;obtain⟨i,j,rfl,rfl,q⟩:=h;obtain⟨t,rfl⟩:=rx;obtain⟨t',rfl⟩:=ry;exact rule i j t t' s _ _ ⟨.int (g i j),H,I.tok _,⟨_,rfl⟩,q⟩
theorem OZ {f:g_->g_->Sem g_}{g:Int->Int->Bool}
  (rule:∀ (i j:Int) (t u:Tok) (s:hE) (Q:g0) (E:g0),Q (.bool (g i j)) s->wpAny (model X.prog X.w) X.A (f (.int i t) (.int j u)) Q E s) :
  OpR X f (rI0 λ i j=>.bl (g i j)):=by
 intro pins s σ H x y v u Q I rx ry h;obtain⟨i,j,rfl,rfl,q⟩:=h;obtain⟨t,rfl⟩:=rx;obtain⟨t',rfl⟩:=ry;exact rule i j t t' s _ _ ⟨.bl (g i j),H,I,rfl,q⟩
def Ui (i j:Int):Prop:=0<j/\j<1073741824
def Uj (i j:Int):Prop:=0<=j/\j<=1000000/\i.natAbs<2 ^ 64
def Ls (i j:Int):Prop:=(-(2 ^ 64)<i/\i<2 ^ 64)\/(-(2 ^ 64)<j/\j<2 ^ 64)
theorem Ls.ok {i j:Int}(h:Ls i j):IntMulOk i j:=by
 rcases h with⟨h1,h2⟩ | ⟨h1,h2⟩
 ·exact .of_left (intBits_le_64 h1 h2)
 ·exact .of_right (intBits_le_64 h1 h2)
theorem nN:OpR X (binaryOp .Add) (rI0 λ i j=>.int (i+j)):=Ry λ _ _ _ _ _ _ _ q=>add_int q
theorem v_:OpR X (binaryOp .Sub) (rI0 λ i j=>.int (i-j)):=Ry λ _ _ _ _ _ _ _ q=>sub_int q
theorem tU:OpR X (binaryOp .Mult) (rI Ls λ i j=>.int (i*j)):=opI λ _ _ _ _ _ _ _ hc q=>mul_int q hc.ok
theorem Lu:OpR X (binaryOp .FloorDiv) (rI Ui λ i j=>.int (i / j)):=opI λ i j _ _ _ _ _ hc q=>by have h1:(0:Int)<j:=hc.1;have h2:j<1073741824:=hc.2;exact floordiv_int (by lia) (by rw[fV i (by lia)];exact q) (.inl (PyProof.noPylong_small (by lia)))
theorem tV:OpR X (binaryOp .Mod) (rI (λ _ j=>0<j) λ i j=>.int (i % j)):=opI λ i j _ _ _ _ _ hc q=>by have h1:(0:Int)<j:=hc;exact mod_int' (by lia) (by rw[Int.fmod_eq_emod_of_nonneg i (by lia)];exact q)
theorem HU:OpR X (binaryOp .Pow) (rI Uj λ i j=>.int (i ^ j.toNat)):=opI λ _ _ _ _ _ _ _ hc q=>pow_int_small hc.1 hc.2.1 hc.2.2 q
theorem unI {f:g_->Sem g_}{g:Int->Int}
  (rule:∀ (i:Int) (t:Tok) (s:hE) (Q:g0) (E:g0),Q (.int (g i) s.toks) {s with toks:=s.toks+1}->wpAny (model X.prog X.w) X.A (f (.int i t)) Q E s) :
  UnR X f (rU λ i=>.int (g i)):=by
 intro pins s σ H x v Q I rx h;obtain⟨i,rfl,q⟩:=h;obtain⟨t,rfl⟩:=rx;exact rule i t s _ _ ⟨.int (g i),H,I.tok _,⟨_,rfl⟩,q⟩
theorem O1:UnR X (unaryOp .USub) (rU λ i=>.int (-i)):=unI λ _ _ _ _ _ q=>neg_int q
end
def O2:V->V->Bool
 | .non,.non=>V0 | .non,.int _=>V0 | .int _,.non=>V0 | .non,.bl _=>V0 | .bl _,.non=>V0 | .non,.str _=>V0 | .str _,.non=>V0
 | .int _,.int _=>V0 | .bl _,.bl _=>V0 | .str _,.str _=>V0 | .byt _,.byt _=>V0
 | .int _,.str _=>V0 | .str _,.int _=>V0 | .bl _,.str _=>V0 | .str _,.bl _=>V0
 | _,_=>V1
def rEq:R2:=λ x y H Q=>O2 x y=V0/\Q (.bl (decide (x=y))) H
def rNe:R2:=λ x y H Q=>O2 x y=V0/\Q (.bl (!decide (x=y))) H
theorem zP {i j:Int}:decide (V.int i=V.int j)=(i==j):=by rw[bj];simp
theorem Dc {i j:Bool}:decide (V.bl i=V.bl j)=(i==j):=by rw[bj];simp
theorem zQ {i j:Str}:decide (V.str i=V.str j)=(i==j):=by rw[bj];simp
theorem EU {i j:Array UInt8}:decide (V.byt i=V.byt j)=(i.toList==j.toList):=by rw[bj];cases i;cases j;simp
section
variable {X:Cx}{a b c:Expr}{ta tb tc:TE}{pos:Pos}
theorem jj {pins:hJ}{σ:St}{H:Hp}{s:hE}{Q:VK}{k k':Bool}(I:Inv X pins σ H s)(q:Q (.bl k) H)(e:k=k'):EP X pins σ Q (.bool k') s:=by subst e;exact⟨.bl k,H,I,rfl,q⟩
theorem Rz:OpR X (compareOp .Eq) rEq:=by
 intro pins s σ H x y v u Q I rx ry h;obtain⟨hs,q⟩:=h;cases x with
 | non =>
  cases rx;cases y with
  | non=>cases ry;exact PySem.EqNone.eq_none_none (jj I q (by simp))
  | bl j=>cases ry;exact PySem.EqNone.eq_none_bool (jj I q (by simp))
  | int j=>obtain⟨t',rfl⟩:=ry;exact PySem.EqNone.eq_none_int (jj I q (by simp))
  | str j=>obtain⟨t',rfl⟩:=ry;exact PySem.EqNone.eq_none_str (jj I q (by simp))
  | _=>exact absurd (show V1=V0 from hs) ax
 | bl i =>
  cases rx;cases y with
  | non=>cases ry;exact PySem.EqNone.eq_bool_none (jj I q (by simp))
  | bl j=>cases ry;exact eq_bool (jj I q Dc)
  | str j=>obtain⟨t',rfl⟩:=ry;exact PySem.EqMixed.eq_bool_str (jj I q (by simp))
  | _=>exact absurd (show V1=V0 from hs) ax
 | int i =>
  obtain⟨t,rfl⟩:=rx;cases y with
  | non=>cases ry;exact PySem.EqNone.eq_int_none (jj I q (by simp))
  | int j=>obtain⟨t',rfl⟩:=ry;exact eq_int (jj I q zP)
  | str j=>obtain⟨t',rfl⟩:=ry;exact PySem.EqMixed.eq_int_str (jj I q (by simp))
  | _=>exact absurd (show V1=V0 from hs) ax
 | str i =>
  obtain⟨t,rfl⟩:=rx;cases y with
  | non=>cases ry;exact PySem.EqNone.eq_str_none (jj I q (by simp))
  | bl j=>cases ry;exact PySem.EqMixed.eq_str_bool (jj I q (by simp))
  | int j=>obtain⟨t',rfl⟩:=ry;exact PySem.EqMixed.eq_str_int (jj I q (by simp))
  | str j=>obtain⟨t',rfl⟩:=ry;exact eq_str (jj I q zQ)
  | _=>exact absurd (show V1=V0 from hs) ax
 | byt i =>
  obtain⟨t,rfl⟩:=rx;cases y with
  | byt j=>obtain⟨t',rfl⟩:=ry;exact PySem.W.eq_bytes (jj I q EU)
  | _=>exact absurd (show V1=V0 from hs) ax
 | _=>cases y<;>exact absurd (show V1=V0 from hs) ax
theorem HV:OpR X (compareOp .NotEq) rNe:=by
 intro pins s σ H x y v u Q I rx ry h;obtain⟨hs,q⟩:=h;cases x with
 | non =>
  cases rx;cases y with
  | non=>cases ry;exact PySem.EqNone.ne_none_none (jj I q (by simp))
  | bl j=>cases ry;exact PySem.EqNone.ne_none_bool (jj I q (by simp))
  | int j=>obtain⟨t',rfl⟩:=ry;exact PySem.EqNone.ne_none_int (jj I q (by simp))
  | str j=>obtain⟨t',rfl⟩:=ry;exact PySem.EqNone.ne_none_str (jj I q (by simp))
  | _=>exact absurd (show V1=V0 from hs) ax
 | bl i =>
  cases rx;cases y with
  | non=>cases ry;exact PySem.EqNone.ne_bool_none (jj I q (by simp))
  | bl j=>cases ry;exact ne_bool (jj I q (cG not Dc))
  | str j=>obtain⟨t',rfl⟩:=ry;exact PySem.EqMixed.ne_bool_str (jj I q (by simp))
  | _=>exact absurd (show V1=V0 from hs) ax
 | int i =>
  obtain⟨t,rfl⟩:=rx;cases y with
  | non=>cases ry;exact PySem.EqNone.ne_int_none (jj I q (by simp))
  | int j=>obtain⟨t',rfl⟩:=ry;exact ne_int (jj I q (cG not zP))
  | str j=>obtain⟨t',rfl⟩:=ry;exact PySem.EqMixed.ne_int_str (jj I q (by simp))
  | _=>exact absurd (show V1=V0 from hs) ax
 | str i =>
  obtain⟨t,rfl⟩:=rx;cases y with
  | non=>cases ry;exact PySem.EqNone.ne_str_none (jj I q (by simp))
  | bl j=>cases ry;exact PySem.EqMixed.ne_str_bool (jj I q (by simp))
  | int j=>obtain⟨t',rfl⟩:=ry;exact PySem.EqMixed.ne_str_int (jj I q (by simp))
  | str j=>obtain⟨t',rfl⟩:=ry;exact ne_str (jj I q (cG not zQ))
  | _=>exact absurd (show V1=V0 from hs) ax
 | byt i =>
  obtain⟨t,rfl⟩:=rx;cases y with
  | byt j=>obtain⟨t',rfl⟩:=ry;exact PySem.W.ne_bytes (jj I q (cG not EU))
  | _=>exact absurd (show V1=V0 from hs) ax
 | _=>cases y<;>exact absurd (show V1=V0 from hs) ax
theorem NC:OpR X (compareOp .Lt) (rI0 λ i j=>.bl (decide (i<j))):=OZ λ _ _ _ _ _ _ _ q=>lt_int q
theorem RA:OpR X (compareOp .LtE) (rI0 λ i j=>.bl (decide (i<=j))):=OZ λ _ _ _ _ _ _ _ q=>le_int q
theorem ND:OpR X (compareOp .GtE) (rI0 λ i j=>.bl (decide (j<=i))):=OZ λ _ _ _ _ _ _ _ q=>ge_int q
theorem EV:OpR X (compareOp .IsNot) (λ x y H Q=>y=.non/\Q (.bl (!decide (x=.non))) H):=by
 intro pins s σ H x y v u Q I rx ry h;obtain⟨rfl,q⟩:=h;cases ry;refine isnot_none_gen (jj I q ?_);cases x<;>first
  | (cases rx;rfl)
  | (obtain⟨t,rfl⟩:=rx;rfl)
theorem wa (b:Expr){op:CmpOp}(h:op≠.In:=by decide)(h2:op≠.NotIn:=by decide):behindInMarks op b=V1:=by
 have e1:(op==CmpOp.In)=V1:=by cases op<;>first | rfl | exact absurd rfl h
 have e2:(op==CmpOp.NotIn)=V1:=by cases op<;>first | rfl | exact absurd rfl h2
 cases b<;>simp[behindInMarks,e1,e2]
theorem Lv {op:CmpOp}{r:R2}(ho:OpR X (compareOp op) r)(ha:PE X a ta)(hb:PE X b tb)(hm:behindInMarks op b=V1):PE X (.Compare a [op] [b] pos) (tOp r ta tb):=by intro pins s σ H Q I h;exact wpAny_Compare1 (OY ha hb I h λ v u s2 x y H2 I2 rx ry q=>ho pins s2 σ H2 x y v u Q I2 rx ry q) hm
def HW (t:TE):TT:=λ σ H Q=>t σ H λ x H'=>∃ k,x=.bl k/\Q k H'
theorem vL {op:CmpOp}{r:R2}(ho:OpR X (compareOp op) r)(ha:PE X a ta)(hb:PE X b tb)(hm:behindInMarks op b=V1):PT X (.Compare a [op] [b] pos) (HW (tOp r ta tb)):=by
 intro pins s σ H Q I h;refine wpAny_isTrue_Compare1 (thn (ha pins s σ H _ I h) λ v s1 ⟨x,H1,I1,r1,q1⟩=>thn (hb pins s1 σ H1 _ I1 q1) λ u s2 ⟨y,H2,I2,r2,q2⟩ =>thn (ho pins s2 σ H2 x y v u _ I2 r1 r2 q2) λ c s3 ⟨z,H3,I3,r3,k,e,q3⟩=>?_) hm
 subst e;cases r3;exact bY ⟨H3,I3,q3⟩
def De (r r':R2)(ta tb tc:TE):TE:=λ σ H Q=>ta σ H λ x H1=>tb σ H1 λ y H2=>r x y H2 λ z H3=>∃ k,z=.bl k /\
 (if k=V0 then tc σ H3 λ w' H4=>r' y w' H4 Q else Q (.bl V1) H3)
theorem HX {op op':CmpOp}{r r':R2}(ho:OpR X (compareOp op) r)(ho':OpR X (compareOp op') r')(ha:PE X a ta)(hb:PE X b tb)(hc:PE X c tc)
  (hm:lastMarks [op,op'] [b,c]=V1:=by with_unfolding_all rfl):PE X (.Compare a [op,op'] [b,c] pos) (De r r' ta tb tc):=by
 intro pins s σ H Q I h;refine Compare_chain (thn (ha pins s σ H _ I h) λ v s1 ⟨x,H1,I1,r1,q1⟩=>chain_link (thn (hb pins s1 σ H1 _ I1 q1) λ u s2 ⟨y,H2,I2,r2,q2⟩ =>thn (ho pins s2 σ H2 x y v u _ I2 r1 r2 q2) λ d s3 ⟨z,H3,I3,r3,k,e,q3⟩=>?_)) hm
 subst e;cases r3;refine bY ?_;cases k with
 | false=>exact ite_ff ⟨.bl V1,H3,I3,rfl,q3⟩
 | true=>exact ite_tt (chain_last (thn (hc pins s3 σ H3 _ I3 q3) λ w' s4 ⟨z',H4,I4,r4,q4⟩=>ho' pins s4 σ H4 y z' u w' Q I4 r2 r4 q4))
theorem HY {op op':CmpOp}{r r':R2}(ho:OpR X (compareOp op) r)(ho':OpR X (compareOp op') r')(ha:PE X a ta)(hb:PE X b tb)(hc:PE X c tc)
  (hm:lastMarks [op,op'] [b,c]=V1:=by with_unfolding_all rfl):PT X (.Compare a [op,op'] [b,c] pos) (HW (De r r' ta tb tc)):=by
 intro pins s σ H Q I h;refine isTrue_chain (thn (ha pins s σ H _ I h) λ v s1 ⟨x,H1,I1,r1,q1⟩=>test_link (thn (hb pins s1 σ H1 _ I1 q1) λ u s2 ⟨y,H2,I2,r2,q2⟩ =>thn (ho pins s2 σ H2 x y v u _ I2 r1 r2 q2) λ d s3 ⟨z,H3,I3,r3,k,e,q3⟩=>?_)) hm
 subst e;cases r3;refine bY ?_;cases k with
 | false =>obtain⟨k',e',q'⟩:=q3;cases e';exact ite_ff ⟨H3,I3,q'⟩
 | true =>refine ite_tt (test_last (thn (hc pins s3 σ H3 _ I3 q3) λ w' s4 ⟨z',H4,I4,r4,q4⟩=>thn (ho' pins s4 σ H4 y z' u w' _ I4 r2 r4 q4) λ d' s5 ⟨z2,H5,I5,r5,k2,e2,q5⟩=>?_));subst e2;cases r5;exact bY ⟨H5,I5,q5⟩
def Lw (K:g9)(x:V)(H:Hp)(k:Bool):Prop :=
 match x with
 | .non=>k=V1
 | .bl b=>k=b
 | .int i=>k=(i != 0)
 | .str y=>y.length<=sizeLine/\k=((y.length:Int) != 0)
 | .byt y=>y.size<=sizeLine/\k=((y.size:Int) != 0)
 | .ref p=>(∃ xs,SqL K H p xs/\k=!xs.isEmpty)\/(∃ xs,SqT K H p xs/\k=!xs.isEmpty)\/∃ kvs,H p=kb (.dK kvs)/\k=!kvs.isEmpty
 | _=>False
theorem Df {κ:Type}{kvs:List (κ×V)}{vs:List (κ×g_)}(r:KV kvs vs):(!vs.isEmpty)=!kvs.isEmpty:=by cases r<;>rfl
theorem wc {xs:List V}{its:List g_}(r:Vals xs its):(!its.toArray.isEmpty)=!xs.isEmpty:=by cases r<;>simp
theorem rz:(sizeLine:Nat)<2 ^ 63:=by rw[sizeLine_eq];decide
theorem O3:Uh X (λ x H Q=>∃ k,Lw X.K x H k/\Q k H):=by
 intro pins s σ H x v Q I rx h;obtain⟨k,e,q⟩:=h;have hl:=rz;have hs:sizeLine=16777216:=sizeLine_eq;cases x with
 | non =>cases rx;have e':k=V1:=e;subst e';exact truthy_none ⟨H,I,q⟩
 | bl b =>cases rx;have e':k=b:=e;subst e';exact bY ⟨H,I,q⟩
 | int i =>obtain⟨t,rfl⟩:=rx;have e':k=(i != 0):=e;subst e';exact PySem.P.truthy_int ⟨H,I,q⟩
 | str y =>obtain⟨t,rfl⟩:=rx;obtain⟨hy,e'⟩:y.length<=sizeLine/\k=((y.length:Int) != 0):=e;subst e';exact PySem.P.truthy_str (by lia) ⟨H,I.tok _,q⟩
 | byt y =>obtain⟨t,rfl⟩:=rx;obtain⟨hy,e'⟩:y.size<=sizeLine/\k=((y.size:Int) != 0):=e;subst e';exact PySem.W.truthy_bytes (by lia) ⟨H,I.tok _,q⟩
 | ref p =>
  cases rx;have e':(∃ xs,SqL X.K H p xs/\k=!xs.isEmpty)\/(∃ xs,SqT X.K H p xs/\k=!xs.isEmpty)\/∃ kvs,H p=kb (.dK kvs)/\k=!kvs.isEmpty:=e;rcases e' with⟨xs,hx,e'⟩ | ⟨xs,hx,e'⟩ | ⟨kvs,hx,e'⟩
  ·subst e';obtain⟨its,r,pl,hz⟩:=I.list hx;have hlen:=r.length;exact wpAny_truthy_list pl.isList (by simp only[aC];lia) ⟨H,I.tok _,by rw[wc r];exact q⟩
  ·subst e';obtain⟨its,r,pl,hz⟩:=I.tuple hx;have hlen:=r.length;exact truthy_tuple pl (by simp only[aC];lia) ⟨H,I.tok _,by rw[wc r];exact q⟩
  ·subst e';obtain⟨hz,hS,vs,r,m⟩:kvs.length<=sizeLine/\(p==sysModules)=V1/\∃ vs,KV kvs vs/\s.heap.DictOf (jY X.prog X.w) p vs:=I.hok p _ hx;have hlen:kvs.length=vs.length:=fI r;exact wpAny_truthy_dict hS m (by lia) ⟨H,I.tok _,by rw[Df r];exact q⟩
 | _=>exact(show False from e).elim
theorem Bi (ha:PE X a ta)(he:∀ whole,isTrue a X.env whole=(do let v<-whole;standAt a.pos;holding [v] (truthy v))) :
  PT X a (λ σ H Q=>ta σ H λ x H'=>∃ k,Lw X.K x H' k/\Q k H'):=by
 intro pins s σ H Q I h;exact isTrue_plain (thn (ha pins s σ H _ I h) λ v s1 ⟨x,H1,I1,r1,q1⟩=>O3 pins s1 σ H1 x v Q I1 r1 q1) (he _)
theorem vals1 {x:V}{us:List g_}(r:Vals [x] us):∃ u,us=[u]/\RelV x u:=by
 cases r with
 | cons r1 r2=>cases r2;exact⟨_,rfl,r1⟩
theorem vals2 {x y:V}{us:List g_}(r:Vals [x,y] us):∃ u w',us=[u,w']/\RelV x u/\RelV y w':=by
 cases r with
 | cons r1 r2 =>
  cases r2 with
  | cons r3 r4=>cases r4;exact⟨_,_,rfl,r1,r3⟩
theorem HZ:j3 X (.builtin "abs") (λ xs H Q=>∃ i,xs=[.int i]/\Q (.int (if i<0 then -i else i)) H):=by intro pins s σ H xs us Q I r h;obtain⟨i,rfl,q⟩:=h;obtain⟨u,rfl,t,rfl⟩:=vals1 r;exact call_abs_int λ u tk=>⟨.int (if i<0 then -i else i),H,I.tok _,⟨_,rfl⟩,q⟩
theorem yN (hc:X.calm=V0):j3 X (.builtin "max") (λ xs H Q=>∃ i j,xs=[.int i,.int j]/\Q (.int (if j>i then j else i)) H):=by
 intro pins s σ H xs us Q I r h;obtain⟨i,j,rfl,q⟩:=h;obtain⟨u,w',rfl,⟨t,rfl⟩,⟨t',rfl⟩⟩:=vals2 r;refine max_two_ints (I.ok.hd hc) λ h' tk k=>⟨_,H,I.kept k,?_,q⟩;by_cases hj:j>i
 ·rw[ae hj,ae hj];exact⟨_,rfl⟩
 ·rw[ag hj,ag hj];exact⟨_,rfl⟩
theorem yO (hc:X.calm=V0):j3 X (.builtin "min") (λ xs H Q=>∃ i j,xs=[.int i,.int j]/\Q (.int (if j<i then j else i)) H):=by
 intro pins s σ H xs us Q I r h;obtain⟨i,j,rfl,q⟩:=h;obtain⟨u,w',rfl,⟨t,rfl⟩,⟨t',rfl⟩⟩:=vals2 r;refine min_two_ints (I.ok.hd hc) λ h' tk k=>⟨_,H,I.kept k,?_,q⟩;by_cases hj:j<i
 ·rw[ae hj,ae hj];exact⟨_,rfl⟩
 ·rw[ag hj,ag hj];exact⟨_,rfl⟩
end
structure VO (h:Heap)(x dx C:Addr)(mA:gZ):Prop where
 obj:h.get? x=kb (PySem.W.instObj C dx)
 ns:h.Ns1 dx mA
 ne:dx≠x
section
variable {prog:Program}{w:World}{A:Around}{E:g0}{s:hE}{K:g9}{x dx C f:Addr}{mA:gZ}{name:Str}{v:g_}
end
theorem yj.some_of {v:V}{o:g6 g_}(r:yj (kb v) o):∃ u,o=kb u/\RelV v u:=by
 cases o with
 | none=>exact(show False from r).elim
 | some u=>exact⟨u,rfl,r⟩
section
variable {P:Program}{w:World}{H H':Hp}{h h':Heap}{a C dx:Addr}{fs fs':List (Str×V)}
end
structure Cls (K:g9)(C:Addr):Prop where
 pg:PySem.W.plainGet K C Str.empty=V0
 hd:PySem.W.hasDictIn K C=V0
 po:PySem.W.plainOver K C=V0
 sa:PySem.W.findIn K (.ref C) "__setattr__"=kb (kb (.builtin "object.__setattr__"))
structure Con (K:g9)(C:Addr)(f:Str)(v:V)(u:g_):Prop where
 at_:PySem.W.findIn K (.ref C) f=kb (kb u)
 rel:RelV v u
 get:PySem.W.specialIn K u "__get__"=kb My
 cp:PySem.W.copiedNames.contains f=V1
structure Meth (K:g9)(C:Addr)(m:Str)(f:Addr):Prop where
 at_:PySem.W.findIn K (.ref C) m=kb (kb (.ref f))
 fn:PySem.W.isFn K (.ref f)=V0
 kp:PySem.W.keepIn K (.ref f)=V0
section
variable {X:Cx}{pins:hJ}{σ:St}{H:Hp}{s:hE}{a C dx:Addr}{fs:List (Str×V)}{f:Str}{v:V}{A:Around}{E:g0}
end
section
variable {X:Cx}{o e value:Expr}{f:Str}{pos pos' tpos:Pos}{ta tv:TE}
end
section
variable {X:Cx}{pins:hJ}{σ:St}{H:Hp}{s:hE}{A:Around}{E:g0}{Q:g0}{c:g_}{b:Bool}
inductive wd (K:g9) (H:Hp):V->g_->Prop where
 | non:wd K H .non (.type "NoneType")
 | bl (x:Bool):wd K H (.bl x) (.type "bool")
 | int (i:Int):wd K H (.int i) (.type "int")
 | str (x:Str):wd K H (.str x) (.type "str")
 | flt (x:UInt64):wd K H (.flt x) (.type "float")
 | lst {a:Addr} {xs:List V} (e:H a=kb (.lst xs)):wd K H (.ref a) (.type "list")
 | frz {a:Addr} {o:Obj} {xs:List V} (e:H a=kb (.frz o (.lst xs))):wd K H (.ref a) (.type "list")
 | tup {a:Addr} {xs:List V} (e:H a=kb (.tup xs)):wd K H (.ref a) (.type "tuple")
 | dK {a:Addr} {kvs:List (Key×V)} (e:H a=kb (.dK kvs)):wd K H (.ref a) (.type "dict")
 | dT {a:Addr} {kvs:List (List Key×V)} (e:H a=kb (.dT kvs)):wd K H (.ref a) (.type "dict")
 | ins {a C dx:Addr} {fs:List (Str×V)} (e:H a=kb (.ins C dx fs)) (cl:Cls K C) (ha:PySem.W.findIn K (.ref C) "__class__"=kb (kb (.builtin "object.__class__")))
   (hn:PySem.W.specialIn K (.builtin "object.__class__") "__get__"=kb (kb (.builtin "getset_descriptor.__get__"))) (htk:PySem.W.takesIn K (.builtin "object.__class__")=kb V0)
   (hm:PySem.W.mroIn K C (.type "object")=kb V0):wd K H (.ref a) (.ref C)
end
structure kN (k:Nat)(A:Around):Prop where
 hd:A.handled=My
 dp:A.depth+3*k+5<recursionLimit
 un:A.units+16*k+200<cLine
 gd:A.guards=kb []
theorem kN.mono {j k:Nat}{A:Around}(r:kN k A)(h:j<=k):kN j A:=⟨r.hd,by have:=r.dp;lia,by have:=r.un;lia,r.gd⟩
theorem kN.deeper {k:Nat}{A:Around}(r:kN (k+1) A)(env:Env):kN k (A.deeper env) :=
 ⟨r.hd,by have:=r.dp;show A.depth+1+3*k+5<_;lia,by have:=r.un;show A.units+3+16*k+200<_;lia,r.gd⟩
theorem kN.depth {k:Nat}{A:Around}(r:kN k A):A.depth<recursionLimit:=by have:=r.dp;lia
theorem kN.units {k:Nat}{A:Around}(r:kN k A):A.units+64<cLine:=by have:=r.un;lia
def jI:TA:=λ _ H Q=>Q [] H
def iN (ta:TE)(tr:TA):TA:=λ σ H Q=>ta σ H λ x H1=>tr σ H1 λ xs H2=>Q (x::xs) H2
section
variable {X:Cx}{e:Expr}{es:List Expr}{te:TE}{t:TA}{pos:Pos}
theorem iM:PA X [] jI:=λ _ _ _ _ H Q I h=>Calls.spliced_nil ⟨[],H,I,.nil,h⟩
theorem ic (ha:PE X e te)(hr:PA X es t)(hs:starEach (e::es) X.env=(V1,eval e X.env)::starEach es X.env:=by rfl):PA X (e::es) (iN te t):=by intro pos pins s σ H Q I h;rw[hs];show wpAny _ _ (spliced ((V1,eval e X.env)::backTo pos (starEach es X.env))) _ _ s;refine Calls.spliced_cons (thn (ha pins s σ H _ I h) λ u s1 ⟨x,H1,I1,r1,q1⟩=>?_);exact thn (hr pos pins s1 σ H1 _ I1 q1) λ us s2 ⟨xs,H2,I2,r2,q2⟩=>⟨x::xs,H2,I2,.cons r1 r2,q2⟩
def Gm (t:TA):TE:=λ σ H Q=>t σ H λ xs H1=>xs.length<=sizeLine/\∀ p,H1 p=My->Q (.ref p) (upd H1 p (.tup xs))
def we (t:TA):TE:=λ σ H Q=>t σ H λ xs H1=>xs.length<=sizeLine/\∀ p,H1 p=My->Q (.ref p) (upd H1 p (.lst xs))
theorem tW {x1}(h:PA X es t):PE X (.Tuple es x1 pos) (Gm t):=by intro pins s σ H Q I hq;refine wpAny_Tuple_spliced (thn (h pos pins s σ H _ I hq) λ us s1 ⟨xs,H1,I1,r,z,q⟩=>⟨by rw[<-r.length];exact z,?_⟩);have hf:H1 s1.heap.objs.size=My:=I1.hok.fresh (aq _);refine⟨.ref s1.heap.objs.size,upd H1 s1.heap.objs.size (.tup xs),I1.laid (t':=s1.toks) (λ b u e=>ai _ e) (aq _) ?_,rfl,q _ hf⟩;exact⟨⟨z,_,aK _ rfl,rfl⟩,us,r,⟨_,aK _ rfl,rfl,_,rfl⟩⟩
theorem lx (h:PA X es t):PE X (.List es pos) (we t):=by intro pins s σ H Q I hq;refine wpAny_List_spliced (thn (h pos pins s σ H _ I hq) λ us s1 ⟨xs,H1,I1,r,z,q⟩=>⟨by rw[<-r.length];exact z,?_⟩);have hf:H1 s1.heap.objs.size=My:=I1.hok.fresh (aq _);refine⟨.ref s1.heap.objs.size,upd H1 s1.heap.objs.size (.lst xs),I1.laid (t':=s1.toks) (λ b u e=>ai _ e) (aq _) ?_,rfl,q _ hf⟩;exact⟨z,us,0,r,aK _ rfl⟩
end
abbrev Sp:=List V->Hp->VK->XK->Prop
abbrev CXT:=List Env->Hp->hE->XK->g_->hE->Prop
structure Gn (P:Program)(w:World)(K:g9)(mg:gZ)(base:Heap)(A:Around)(outer:List Env)(s:hE)(H:Hp):Prop where
 frames:A.frames=kb outer
 mod:Mod K mg base
 bs:∀ b o,base.get? b=kb o->s.heap.get? b=kb o/\H b=My
 bsz:base.objs.size<=s.heap.objs.size
 tQ:s.heap.FunFrames base outer
 frf:∀ b∈frs outer,H b=My
 hok:HOk P w H s.heap
 bare:AllBare s.gens
def CE (outer:List Env)(P:Program)(w:World)(H:Hp)(s:hE)(Q:VK)(u:g_)(s':hE):Prop :=
 ∃ v H',s'.os=s.os/\AllBare s'.gens/\Un (frs outer) [] H H' s.heap s'.heap/\HOk P w H' s'.heap/\RelV v u/\Q v H'
def CR (CX:CXT)(outer:List Env)(P:Program)(w:World)(H:Hp)(s:hE)(Q:VK)(E:XK)(r:Result)(s':hE):Prop :=
 match r with
 | .ok (.ret u)=>CE outer P w H s Q u s'
 | .ok _=>False
 | .error e=>CX outer H s E e s'
structure oJ (P:Program)(w:World)(K:g9)(mg:gZ)(base:Heap)(CX:CXT)(k:Nat)(f:Addr)(fd:FuncData)(ps:List Str)(sp:Sp):Prop where
 len:∀ vs H Q E,sp vs H Q E->vs.length=ps.length
 run:∀ (A:Around) (outer:List Env) (s:hE) (H:Hp) (args:Args) (us:List g_) (vs:List V) (Q:VK) (E:XK),kN k A->Gn P w K mg base A outer s H->BindsTo s fd args (ps.zip us)->Vals vs us->sp vs H Q E ->
  codeAny (model P w) A (.call (.ref f) args) (CR CX outer P w H s Q E) s
theorem oJ.imp {P:Program}{w:World}{K:g9}{mg:gZ}{base:Heap}{CX:CXT}{k:Nat}{f:Addr}{fd:FuncData}{ps:List Str}{sp sp':Sp}(F:oJ P w K mg base CX k f fd ps sp)
  (h:∀ vs H Q E,sp' vs H Q E->sp vs H Q E):oJ P w K mg base CX k f fd ps sp' :=
 ⟨λ vs H Q E q=>F.len vs H Q E (h _ _ _ _ q),λ A outer s H args us vs Q E hr he hb hv hs=>F.run A outer s H args us vs Q E hr he hb hv (h _ _ _ _ hs)⟩
section
variable {X:Cx}{pins:hJ}{σ:St}{H:Hp}{s s':hE}
theorem Inv.RB (I:Inv X pins σ H s):Gn X.prog X.w X.K X.mg X.base X.A X.stack s H :=
 ⟨I.ok.frames,I.ok.mod,I.bs,bg I.ok.bsz I.sz,I.stack,I.vK,I.hok,I.bare⟩
theorem Inv.after {Q:VK}{u:g_}(I:Inv X pins σ H s)(h:CE X.stack X.prog X.w H s Q u s'):EP X pins σ Q u s':=by obtain⟨v,H',os,bare,un,hok,r,q⟩:=h;obtain⟨hh,g,d,t,os'⟩:=s';obtain rfl:os'=s.os:=os;exact⟨v,H',I.call (h':=hh) (g':=g) (d':=d) (t':=t) (ch:=[]) un hok bare (λ b z=>absurd z (by simp)),r,q⟩
end
def mf (sp:Sp)(dvs:List V)(E:XK)(t:TA):TE:=λ σ H Q=>t σ H λ vs H1=>sp (vs++dvs) H1 Q E
def Binds (K:g9)(fd:FuncData)(ps:List Str)(ds:List g_):Prop :=
 ∀ (s:hE) (us:List g_),K.In s.heap->(us++ds).length=ps.length->BindsTo s fd ⟨us,[]⟩ (ps.zip (us++ds))
theorem Binds.all {K:g9}{fd:FuncData}{ps:List Str}(h:∀ us:List g_,us.length=ps.length->bindArgs fd ⟨us,[]⟩=pure (ps.zip us)):Binds K fd ps []:=λ s us _ hl=>by rw[bH]at hl ⊢;exact .of_eq (h us hl)
def Passes (CX:CXT)(X:Cx)(E:XK):Prop:=∀ (pins:hJ) (σ:St) (H:Hp) (s:hE) (e:g_) (s':hE),Inv X pins σ H s->CX X.stack H s E e s'->X.xe e s'
section
variable {X:Cx}{CX:CXT}{k:Nat}{f C:Addr}{fd:FuncData}{ps:List Str}{sp:Sp}{dvs:List V}{ds:List g_}{E:XK}{x m:Str}{p pos apos:Pos}{e o:Expr}{es:List Expr}{ta:TE}{t:TA}
theorem O4 {pins:hJ}{σ:St}{H:Hp}{s:hE}{Q:VK}{us:List g_}{vs:List V}(F:oJ X.prog X.w X.K X.mg X.base CX k f fd ps sp)(hr:kN k X.A)(hb:Binds X.K fd ps ds)(hd:Vals dvs ds)(hx:Passes CX X E)
  (I:Inv X pins σ H s) (r:Vals vs us) (h:sp (vs++dvs) H Q E):wpAny (model X.prog X.w) X.A (call (.ref f) us) (EP X pins σ Q) X.xe s:=by
 have r2:Vals (vs++dvs) (us++ds):=r.append hd;have hl:(us++ds).length=ps.length:=by rw[<-r2.length];exact F.len _ _ _ _ h
 refine wpAny_call (codeAny_mono (F.run X.A X.stack s H ⟨us,[]⟩ (us++ds) (vs++dvs) Q E hr I.RB (hb s us I.kIn hl) r2 h) λ r s' hq=>?_);cases r with
 | error e=>exact hx pins σ H s e s' I hq
 | ok fl =>
  cases fl with
  | ret u=>exact I.after hq
  | next=>exact False.elim hq
  | brk=>exact False.elim hq
  | cont=>exact False.elim hq
theorem zR (F:oJ X.prog X.w X.K X.mg X.base CX k f fd ps sp)(hr:kN k X.A)(hg:Gl X x)(hm:X.mg x=kb (.ref f))(hk:PySem.W.keepIn X.K (.ref f)=V0)(hb:Binds X.K fd ps ds)(hd:Vals dvs ds)(hx:Passes CX X E)
  (ha:PA X (e::es) t) (hdb:(x==("__debug__":Str))=V1:=by decide) (he:starEach (e::es) X.env=(V1,eval e X.env)::starEach es X.env:=by rfl) (hpl:(backTo pos (starEach es X.env)).any (·.1)=V1:=by rfl) :
  PE X (.Call (.Name x p) (e::es) [] pos) (mf sp dvs E t):=by
 intro pins s σ H Q I h;refine eX (r9 I hg hm ?_ hdb);refine PySem.W.callWith_K (h₀:=X.base) I.ok.mod.kin hk (thn (ha pos pins s σ H _ I h) λ us s1 ⟨vs,H1,I1,r,q⟩=>⟨I1.kIn,?_⟩) he hpl;exact O4 F hr hb hd hx I1 r q
structure Mk (K:g9)(C f:Addr):Prop where
 makes:PySem.W.makesIn K C=V0
 init:PySem.W.findIn K (.ref C) "__init__"=kb (kb (.ref f))
 fn:PySem.W.isFn K (.ref f)=V0
 kp:PySem.W.keepIn K (.ref C)=V0
end
section
variable {X:Cx}{CX:CXT}{k:Nat}{f C:Addr}{fd:FuncData}{ps ks:List Str}{sp:Sp}{E:XK}{x m:Str}{p pos apos kpos:Pos}{e o:Expr}{es:List Expr}{kws:List Keyword}{te ta:TE}{t tk:TA}{nm:g6 Str}
structure Uk (K:g9)(fd:FuncData)(ps ks:List Str)(g:List g_->List g_->List g_)(gV:List V->List V->List V):Prop where
 to:∀ (s:hE) (us ws:List g_),K.In s.heap->(g us ws).length=ps.length->BindsTo s fd ⟨us,ks.zip ws⟩ (ps.zip (g us ws))
 rel:∀ {vs:List V} {us:List g_} {zs:List V} {ws:List g_},Vals vs us->Vals zs ws->Vals (gV vs zs) (g us ws)
variable {g:List g_->List g_->List g_}{gV:List V->List V->List V}
end
structure iL (N P:List Str)(sc:Scope):Prop where
 kind:sc.kind=.function
 co:sc.isCoroutine=V1
 gen:sc.isGenerator=V1
 nd:N.Nodup
 pre:N.take P.length=P
 par:∀ x∈P,sc.names.lookup x=kb .local\/sc.names.lookup x=kb .cell
 O5:∀ y∈sc.names,y.2≠.free
theorem yP {kindOf:Str->g6 NameKind}{x:Str}:∀ {binds:List (Str×g_)} {m:gZ},(∀ v,(x,v)∉binds)->bindL kindOf binds m x=m x
 | [],_,_=>rfl
 | (n,v)::r,m,h=>by
  unfold bindL;rw[yP λ w hw=>h w (ar _ hw)];split
  ·have:x≠n:=by rintro rfl;exact h v av
   simp[this]
  ·rfl
theorem yQ {kindOf:Str->g6 NameKind}{x:Str}:∀ {binds:List (Str×g_)} {m:gZ},(∀ v,(x,v)∉binds)->bindC kindOf binds m x=m x
 | [],_,_=>rfl
 | (n,v)::r,m,h=>by
  unfold bindC;rw[yQ λ w hw=>h w (ar _ hw)];split
  ·rfl
  ·have:x≠n:=by rintro rfl;exact h v av
   simp[this]
theorem yR {kindOf:Str->g6 NameKind}{x:Str}{v:g_}:∀ {P:List Str} {vs:List g_} {i:Nat} {m:gZ},P.Nodup->P[i]?=kb x->vs[i]?=kb v->kindOf x=kb .local ->
  bindL kindOf (P.zip vs) m x=kb v
 | [],_,_,_,_,h,_,_=>by simp at h
 | _::_,[],_,_,_,_,h,_=>by simp at h
 | p::P,w::vs,0,m,nd,h1,h2,hk=>by simp at h1 h2;subst h1;subst h2;show bindL kindOf ((p,w)::P.zip vs) m p=_;unfold bindL;rw[yP λ v hv=>(bq.mp nd).1 (ee hv).1,ae hk];simp
 | p::P,w::vs,i+1,m,nd,h1,h2,hk=>by show bindL kindOf ((p,w)::P.zip vs) m x=_;unfold bindL;exact yR (i:=i) (bq.mp nd).2 (by simpa using h1) (by simpa using h2) hk
theorem yS {kindOf:Str->g6 NameKind}{x:Str}{v:g_}:∀ {P:List Str} {vs:List g_} {i:Nat} {m:gZ},P.Nodup->P[i]?=kb x->vs[i]?=kb v->kindOf x≠kb .local ->
  bindC kindOf (P.zip vs) m x=kb v
 | [],_,_,_,_,h,_,_=>by simp at h
 | _::_,[],_,_,_,_,h,_=>by simp at h
 | p::P,w::vs,0,m,nd,h1,h2,hk=>by simp at h1 h2;subst h1;subst h2;show bindC kindOf ((p,w)::P.zip vs) m p=_;unfold bindC;rw[yQ λ v hv=>(bq.mp nd).1 (ee hv).1,ag hk];simp
 | p::P,w::vs,i+1,m,nd,h1,h2,hk=>by show bindC kindOf ((p,w)::P.zip vs) m x=_;unfold bindC;exact yS (i:=i) (bq.mp nd).2 (by simpa using h1) (by simpa using h2) hk
def start (N:List Str)(vs:List V):St:=vs.map kb++V3 (N.length-vs.length) My
def se (CX:CXT)(P:Program)(w:World)(K:g9)(mg:gZ)(base:Heap)(N:List Str)(qual:Str)(scope:Scope)(f:Addr)(cd:g_)(A:Around)(outer:List Env)(s:hE)(H:Hp)(E:XK):Cx where
 prog:=P
 w:=w
 K:=K
 mg:=mg
 base:=base
 A:=A.deeper (envOfC qual scope s.heap.objs.size f cd)
 N:=N
 s₀:=s
 H₀:=H
 env:=envOfC qual scope s.heap.objs.size f cd
 outer:=outer
 stack:=envOfC qual scope s.heap.objs.size f cd::outer
 ex:=[]
 calm:=V0
 fn:=λ _=>V0
 pn:=[]
 xe:=λ e s'=>wpAny (model P w) (A.deeper (envOfC qual scope s.heap.objs.size f cd)) (leaving (envOfC qual scope s.heap.objs.size f cd) e) (λ _ s''=>CX outer H s E e s'') (λ e' s''=>CX outer H s E e' s'') s'
theorem Bj {sc:Scope}{n:Nat}{x:Str}(h:sc.names.lookup x=kb .cell):∃ c,(cellsFrom n sc.names []).lookup x=kb c:=by have q:=fe sc.names n [] (.inl h);exact eO.mp q
theorem yT {CX:CXT}{P:Program}{w:World}{K:g9}{mg:gZ}{base:Heap}{N ps:List Str}{qual:Str}{scope:Scope}{f:Addr}{cd:g_}{A:Around}{outer:List Env}{s s1:hE}{H:Hp}{E:XK}{us:List g_}{vs:List V}
  (S:iL N ps scope) (hd:A.handled=My) (e0:Gn P w K mg base A outer s H) (hl:vs.length=ps.length) (r:Vals vs us)
  (x:InCallC s s.heap.objs.size (bindL (envOfC qual scope s.heap.objs.size f cd).kindOf (ps.zip us) λ _=>My) (cellsFrom (s.heap.objs.size+1) scope.names []) (bindC (envOfC qual scope s.heap.objs.size f cd).kindOf (ps.zip us) λ _=>My) s1) :
  Inv (se CX P w K mg base N qual scope f cd A outer s H E) [] (start N vs) H s1:=by
 have hpl:ps.length<=N.length:=by have:=cG List.length S.pre;rw[dY]at this;lia
 obtain⟨h1,tk,rfl,hk⟩:=x.done;have noA:∀ b:Addr,b∉(se CX P w K mg base N qual scope f cd A outer s H E).ex:=λ b z=>absurd (show b∈([]:List Addr) from z) (by simp);refine⟨⟨e0.mod,S.kind,rfl,rfl,aq _,λ y z c h1 h2=>?_,λ y hy=>?_,λ y c _ h=>?_,λ _=>hd,Around.frames_deeper e0.frames,.inr ⟨rfl,rfl⟩,λ b z=>absurd z (noA b),e0.bs,e0.bsz,λ b _ _=>noA b,λ b z=>absurd z (noA b),e0.tQ,e0.frf⟩,
  rfl,e0.bare,Un.kept hk,⟨_,x.toInCall.ns,λ i y v h1 h2 h3=>?_⟩,λ y c h=>⟨_,x.cell y c h⟩,e0.hok.fresh (aq _),λ y c h=>?_,λ p hp=>absurd (show p∈([]:hJ) from hp) (by simp),e0.hok.kept hk,?_⟩
 ·exact name_of_addr x.apart (c_ h1) (c_ h2)
 ·have hy:scope.names.lookup y=kb .cell\/scope.names.lookup y=kb .free:=hy
  rcases hy with hy | hy
  ·exact Bj hy
  ·exact absurd rfl (S.O5 _ (c_ hy))
 ·exact d8 (x.above y c (c_ h))
 ·have hi:i<vs.length:=by
   unfold start at h2;by_cases hi:i<vs.length
   ·exact hi
   ·rw[bE (by simpa using hi)]at h2;rw[List.getElem?_replicate]at h2;split at h2<;>cases h2
  have ha:vs[i]?=kb v:=by
   unfold start at h2;rw[br (by simpa using hi),aD]at h2;cases e:vs[i]? with
   | none=>rw[e]at h2;cases h2
   | some a=>rw[e]at h2;cases h2;rfl
  obtain⟨u,hu,rv⟩:=r.get ha;have hp:ps[i]?=kb y:=by rw[<-S.pre,eP (by lia)];exact h1
  have ndP:ps.Nodup:=by rw[<-S.pre];exact S.nd.sublist (List.take_sublist _ _)
  refine⟨u,rv,?_⟩;rcases S.par y (bc hp) with k | k
  ·exact .inl ⟨k,yR ndP hp hu k⟩
  ·obtain⟨c,e⟩:=Bj (n:=s.heap.objs.size+1) k;refine .inr ⟨.inl k,c,e,?_⟩;have q:=x.cell y c e;rw[yS ndP hp hu (by show scope.names.lookup y≠_;rw[k];decide)]at q;exact q
 ·exact e0.hok.fresh (d8 (x.above y c (c_ h)))
 ·unfold start;show _=N.length;rw[aQ,ak,List.length_replicate];lia
theorem NF {CX:CXT}{P:Program}{w:World}{K:g9}{mg:gZ}{base:Heap}{k:Nat}{f:Addr}{name qual:Str}{params:Arguments}{body:List Stmt}{scope:Scope}{dV kV doc pm cdv ct oc:g_}{an od:g6 Addr}
  {osl:Array (g6 g_)} {N ps:List Str} {sp:Sp} (lk:K.lookup f=kb ⟨oc,od,.func (PySem.W.fnOf name qual params body scope dV kV doc pm an cdv ct),osl⟩) (hcd:PySem.W.codeIn K cdv qual=V0) (S:iL N ps scope)
  (len:∀ vs H Q E,sp vs H Q E->vs.length=ps.length)
  (hbody:∀ (A:Around) (outer:List Env) (s:hE) (H:Hp) (vs:List V) (Q:VK) (E:XK),kN k (A.deeper (envOfC qual scope s.heap.objs.size f cdv))->sp vs H Q E ->
   ∃ t,PSs (se CX P w K mg base N qual scope f cdv A outer s H E) body t/\t {nx:=λ _ H'=>Q .non H',rt:=Q} (start N vs) H) :
  oJ P w K mg base CX (k+1) f (PySem.W.fnOf name qual params body scope dV kV doc pm an cdv ct) ps sp:=by
 refine⟨len,λ A outer s H args us vs Q E hr e0 hb r hsp=>?_⟩;have hl:=len _ _ _ _ hsp;have KX:K.In s.heap:=e0.mod.kin.keeps λ b o e=>(e0.bs b o e).1;have lim:s.heap.NoLimit:=e0.mod.nolimit.keeps λ b o e=>(e0.bs b o e).1;have hkind:∀ y∈ps.zip us,scope.names.lookup y.1=kb .local\/(scope.names.lookup y.1=kb .cell/\((cellsFrom (s.heap.objs.size+1) scope.names []).lookup y.1).isSome=V0):=λ⟨n,v⟩ hy=>by
  rcases S.par n (ee hy).1 with q | q
  ·exact .inl q
  ·exact .inr ⟨q,fe _ _ _ (.inl q)⟩
 refine codeAny_call_function hr.depth (KX _ _ lk) rfl S.co S.gen rfl (PySem.W.codeRec_of KX hcd) (hb _ _ _ _ ?_);refine wpAny_newFunctionEnv_cells S.kind hkind λ env he s1 x=>?_;subst he;refine⟨lim.keeps x.toInCall.keep,codeAny_func ?_⟩;obtain⟨t,ht,hq⟩:=hbody A outer s H vs Q E (hr.deeper _) hsp;have I:Inv (se CX P w K mg base N qual scope f cdv A outer s H E) [] (start N vs) H s1:=yT S hr.hd e0 hl r x;refine cv (ht [] s1 (start N vs) H _ I hq) (λ fl s' hs=>?_) λ e s' hs=>hs;have fin:∀ {σ':St} {H':Hp} {v:V} {u:g_},Inv (se CX P w K mg base N qual scope f cdv A outer s H E) [] σ' H' s'->RelV v u->Q v H'->CE outer P w H s Q u s' :=
  λ{σ' H' v u} J rv q=>⟨v,H',J.os,J.bare,J.base,J.hok,rv,q⟩
 cases fl with
 | ret u =>obtain⟨v,σ',H',J,rv,q⟩:=hs;exact fin J rv q
 | next =>obtain⟨σ',H',J,q⟩:=hs;exact fin (v:=V.non) (u:=Value.none) J rfl q
 | brk =>obtain⟨_,_,_,q⟩:=hs;exact False.elim q
 | cont =>obtain⟨_,_,_,q⟩:=hs;exact False.elim q
section
variable {X:Cx}{x:Str}{p pos:Pos}{e:Expr}{es:List Expr}{t:TA}{id T:String}{r:List V->Hp->VK->Prop}
def tCB (r:List V->Hp->VK->Prop)(t:TA):TE:=λ σ H Q=>t σ H λ vs H1=>r vs H1 Q
theorem kO (hc:j3 X (.builtin id) r)(hg:Gl X x)(hm:X.mg x=My)(hv:bootBuiltins x=kb (.builtin id))(ha:PA X (e::es) t)(hn:x≠"__name__":=by decide)(hdb:(x==("__debug__":Str))=V1:=by decide)
  (he:starEach (e::es) X.env=(V1,eval e X.env)::starEach es X.env:=by rfl) (hpl:(backTo pos (starEach es X.env)).any (·.1)=V1:=by rfl):PE X (.Call (.Name x p) (e::es) [] pos) (tCB r t):=by
 intro pins s σ H Q I h;refine eX (rq I hg hm hv ?_ hn hdb);exact PyProof.Rows.callWith_builtin1 (thn (ha pos pins s σ H _ I h) λ us s1 ⟨vs,H1,I1,r1,q1⟩=>hc pins s1 σ H1 vs us Q I1 r1 q1) he hpl
theorem nW (hc:j3 X (.type T) r)(hg:Gl X x)(hm:X.mg x=My)(hv:bootBuiltins x=kb (.type T))(ha:PA X (e::es) t)(hn:x≠"__name__":=by decide)(hdb:(x==("__debug__":Str))=V1:=by decide)
  (he:starEach (e::es) X.env=(V1,eval e X.env)::starEach es X.env:=by rfl) (hpl:(backTo pos (starEach es X.env)).any (·.1)=V1:=by rfl):PE X (.Call (.Name x p) (e::es) [] pos) (tCB r t):=by
 intro pins s σ H Q I h;refine eX (rq I hg hm hv ?_ hn hdb);exact cF (thn (ha pos pins s σ H _ I h) λ us s1 ⟨vs,H1,I1,r1,q1⟩=>hc pins s1 σ H1 vs us Q I1 r1 q1) he hpl
end
end L2
namespace HT
open PySem PyProof.Rows
def lexLt:List Int->List Int->Bool
 | [],[]=>V1
 | [],_::_=>V0
 | _::_,[]=>V1
 | x::xs,y::ys=>if x=y then lexLt xs ys else decide (x<y)
theorem Dg (x y:Int)(xs ys:List Int):lexLt (x::xs) (y::ys)=if x=y then lexLt xs ys else decide (x<y):=rfl
theorem ym:lexLt [] []=V1:=rfl
theorem wg (y:Int)(ys:List Int):lexLt [] (y::ys)=V0:=rfl
theorem wj (x:Int)(xs:List Int):lexLt (x::xs) []=V1:=rfl
theorem H_ (A:Around)(s:hE)(a:Int)(t:Tok)(c:Int)(u:Tok):∃ e,SeqAt.EqAt A s (.int a t) (.int c u) e/\(e=V0↔a=c) :=
 ⟨(a==c),SeqAt.EqAt.int_int a t c u,by simp⟩
theorem Ia (A:Around)(s:hE)(a:Int)(t:Tok)(c:Int)(u:Tok)(prog:Program)(w:World)(E:g0)(Q:g0)(h:Q (.bool (decide (a<c))) s) :
  wpAny (model prog w) A (richCompare .Lt (.int a t) (.int c u)) Q E s :=
 (PyProof.Rows.lt_int h:wpAny (model prog w) A (compareOp .Lt (.int a t) (.int c u)) Q E s)
section
open PySem.SeqAt
open PySem.AutoSeq1 (wpAny_loadPart')
open PySem.MeetsSeq PySem.MeetsSeq2 PySem.MeetsSeq3
theorem yn (l b:Addr)(items items2:Array g_)(n n2:Nat)(dd dd2:g6 Addr)(sl sl2:Array (g6 g_))(ns ms:List Int)(hi:IntsAre items.toList ns)(hj:IntsAre items2.toList ms) :
  Meets (Builtin.«tuple.__lt__» ⟨[.ref l,.ref b],[]⟩)
   (λ _ R s=>s.heap.get? l=kb {cls:=.type "tuple",dict:=dd,data:=.seq items n,slots:=sl}/\s.heap.get? b=kb {cls:=.type "tuple",dict:=dd2,data:=.seq items2 n2,slots:=sl2} /\
    R (.ok (.ret (.bool (lexLt ns ms)))) s) :=
 .of_wp λ prog w A R s h=>by
  obtain⟨hp,g,d,tk,os⟩:=s;obtain⟨hl,hb,h⟩:=h;have f2:=AutoSeq1.sub_tuple_tuple;have z1:items.size=ns.length:=by rw[<-hi.length];simp
  have z2:items2.size=ms.length:=by rw[<-hj.length];simp
  wp_walk using wpAny_loadPart' hl,wpAny_loadPart' hb,wpAny_forIn_list _ (λ rest b s'=>b.1=My/\s'=⟨hp,g,d,tk,os⟩/\∃ (vs ws:List g_) (ns' ms':List Int),rest=vs.zip ws /\
   IntsAre vs ns'/\IntsAre ws ms'/\ns'.length+items2.size=ms'.length+items.size/\R (.ok (.ret (.bool (lexLt ns' ms')))) ⟨hp,g,d,tk,os⟩) _
  case turn =>
   rintro⟨y,x⟩ rest b s' ⟨hb',rfl,vs,ws,ns',ms',hz,hvi,hwi,hlen,hR⟩;cases hvi with
   | nil=>rw[List.zip_nil_left]at hz;cases hz
   | cons a t hvi' =>
    cases hwi with
    | nil=>rw[List.zip_nil_right]at hz;cases hz
    | cons c u hwi' =>
     rw[fW]at hz;injection hz with hyx hrest;injection hyx with hy hx;subst hy hx;rw[Dg]at hR;simp only[aW]at hlen;obtain⟨e,he,hiff⟩:=H_ A.in1 ⟨hp,g,d,tk,os⟩ a t c u;refine aa (he prog w _ _ ?_);cases e with
     | true =>
      rw[ae (hiff.mp rfl)]at hR
      wp_walk
      exact⟨rfl,rfl,_,_,_,_,hrest,hvi',hwi',by lia,hR⟩
     | false =>
      rw[ag (λ q=>absurd (hiff.mpr q) ax)]at hR;have hri:=Ia A.in1 ⟨hp,g,d,tk,os⟩ a t c u prog w
      wp_walk using hri
      exact⟨_,rfl,by simpa using hR⟩
  case fin =>
   rintro⟨b1,b2⟩ s' ⟨hb',rfl,vs,ws,ns',ms',hz,hvi,hwi,hlen,hR⟩;simp only at hb';subst hb';have hv:lexLt ns' ms'=decide (items.size<items2.size):=by
    cases hvi with
    | nil =>
     cases hwi with
     | nil =>simp only[cP]at hlen;rw[ym];exact(decide_eq_false (by lia)).symm
     | cons c u hw =>simp only[cP,aW]at hlen;rw[wg];exact(decide_eq_true (by lia)).symm
    | cons a t hv =>
     cases hwi with
     | nil =>simp only[cP,aW]at hlen;rw[wj];exact(decide_eq_false (by lia)).symm
     | cons c u hw =>rw[fW]at hz;cases hz
   rw[hv]at hR
   wp_walk
   exact⟨_,rfl,by simpa [Builtin.Tuple.tupleCompareSizes] using hR⟩
  case h =>exact⟨rfl,rfl,items.toList,items2.toList,ns,ms,rfl,hi,hj,by lia,h⟩
end
section
variable {prog:Program}{w:World}{A:Around}{E:g0}{s:hE}
theorem Dh {l b:Addr}{items items2:Array g_}{ns ms:List Int}{Q:g0}(hl:IsTup s.heap l items)(hb:IsTup s.heap b items2)(hi:IntsAre items.toList ns)(hj:IntsAre items2.toList ms)
  (hu:A.units<cLine) (h:Q (.bool (lexLt ns ms)) s):wpAny (model prog w) A (compareOp .Lt (.ref l) (.ref b)) Q E s:=by
 obtain⟨⟨cls,dd,data,sl⟩,ho,hc,n,hd⟩:=id hl;obtain⟨⟨cls2,dd2,data2,sl2⟩,ho2,hc2,n2,hd2⟩:=id hb;simp only at hc hd hc2 hd2;subst hc hd hc2 hd2;exact richCompare_meets_room (op:=.Lt) ⟨_,ho,rfl⟩ ⟨_,ho2,rfl⟩ PySem.F.slot_tuple_lt PySem.F.entry_tuple_lt (PySem.F.args_tuple_lt_2 _ _) (yn l b items items2 n n2 dd dd2 sl sl2 ns ms hi hj)
  ⟨ho,ho2,show Value.bool (lexLt ns ms)≠Value.notImplemented/\Q (.bool (lexLt ns ms)) s from ⟨(λ x=>nomatch x),h⟩⟩ hu
theorem Lx {t b:Addr}{vs ws:List g_}{Q:g0}(ht:IsTup s.heap t vs.toArray)(hb:IsTup s.heap b ws.toArray)(hv:vs≠[])
  (h1:ws=[]->Q (.ref t) s) (h2:ws≠[]->Q (.ref s.heap.objs.size) {s with heap:=s.heap.push {cls:=.type "tuple",data:=.seq (vs++ws).toArray}})
  (hsz:vs.length+ws.length<=sizeLine):wpAny (model prog w) A (binaryOp .Add (.ref t) (.ref b)) Q E s:=by
 obtain⟨⟨cls,dd,data,sl⟩,ho,hc,n,hd⟩:=id ht;obtain⟨⟨cls2,dd2,data2,sl2⟩,ho2,hc2,n2,hd2⟩:=id hb;simp only at hc hd hc2 hd2;subst hc hd hc2 hd2;have e:vs.toArray++ws.toArray=(vs++ws).toArray:=by simp
 by_cases hw:ws=[]
 ·exact concat_meets ⟨_,ho,rfl⟩ ⟨_,ho2,rfl⟩ noFill_tuple_add seq_tuple_add PySem.F.slot_tuple_add PySem.F.entry_tuple_add (PySem.F.args_tuple_add_2 _ _)
   (tuple_addW1 t b vs.toArray ws.toArray n n2 dd dd2 sl sl2 (by simpa using hv) (by simp[hw])) ⟨ho,ho2,h1 hw⟩
 ·refine concat_meets ⟨_,ho,rfl⟩ ⟨_,ho2,rfl⟩ noFill_tuple_add seq_tuple_add PySem.F.slot_tuple_add PySem.F.entry_tuple_add (PySem.F.args_tuple_add_2 _ _)
   (tuple_addW2 t b vs.toArray ws.toArray n n2 dd dd2 sl sl2 (by simpa using hv) (by simpa using hw) (by rw[aC,aC];exact hsz)) ⟨ho,ho2,?_⟩
  rw[e];exact h2 hw
def sIx (n d:Nat):g6 Int->Nat
 | none=>d
 | some v=>if v<0 then (v+(n:Int)).toNat else min v.toNat n
theorem Bk (n d:Nat):sIx n d My=d:=rfl
theorem zS (n d k:Nat):sIx n d (kb (k:Int))=min k n:=by show(if (k:Int)<0 then ((k:Int)+(n:Int)).toNat else min (k:Int).toNat n)=min k n;rw[ag (by lia),cH]
theorem O6 (n d:Nat)(hd:d<=n)(o:g6 Int):sIx n d o<=n:=by
 cases o with
 | none=>exact hd
 | some v =>
  show(if v<0 then (v+(n:Int)).toNat else min v.toNat n)<=n;by_cases hv:v<0
  ·rw[ae hv];lia
  ·rw[ag hv];exact Nat.min_le_right _ _
theorem EW (v:Int)(n d:Nat):(if v<0 then max (v+(n:Int)) 0 else min v (n:Int))=((sIx n d (kb v):Nat):Int):=by
 show(if v<0 then max (v+(n:Int)) 0 else min v (n:Int))=(((if v<0 then (v+(n:Int)).toNat else min v.toNat n):Nat):Int);by_cases hv:v<0
 ·simp only[ae hv];lia
 ·simp only[ag hv];lia
theorem Di (lo hi:g6 Int)(n:Nat):Builtin.Slice.sliceAdjust lo hi 1 (n:Int)=(((sIx n 0 lo:Nat):Int),((sIx n n hi:Nat):Int)):=by
 have h1:¬ ((1:Int)<0):=by lia
 unfold Builtin.Slice.sliceAdjust;simp only[h1,bP];refine gT ?_ ?_
 ·cases lo with
  | none=>rfl
  | some v=>exact EW v n 0
 ·cases hi with
  | none=>rfl
  | some v=>exact EW v n n
theorem Dj (i j:Nat):Builtin.Slice.slicePlaces (i:Int) (j:Int) 1=j-i:=by
 unfold Builtin.Slice.slicePlaces;have h1:(1:Int)>0:=by lia
 simp only[h1,cJ,Int.ediv_one];split<;>lia
theorem wk {v:g_}{o:g6 Int}{Q:g6 Int->hE->Prop}(p:IsPart v o)(h:Q o s):wpAny (model prog w) A (Builtin.Slice.slicePartIndex v) Q E s:=by
 cases p with
 | none=>exact slicePart_none h
 | int i t=>exact slicePart_int h
theorem nX {sl:Addr}{vl vu:g_}{lo hi:g6 Int}{n:Nat}{Q:Int×Int×Nat->hE->Prop}(hs:s.heap.IsSliceOf sl vl vu .none)(pl:IsPart vl lo)(pu:IsPart vu hi)
  (h:Q (((sIx n 0 lo:Nat):Int),1,sIx n n hi-sIx n 0 lo) s):wpAny (model prog w) A (Builtin.Slice.sliceApplied (.ref sl) (pure (n:Int))) Q E s:=by
 obtain⟨os,hos,hcs,hds⟩:=id hs;unfold Builtin.Slice.sliceApplied Builtin.Slice.sliceFields;refine aa (aa (b_ hos hds (x:=vl) rfl (aa (b_ hos hds (x:=vu) rfl (aa (b_ hos hds (x:=.none) rfl (ah ?_)))))));refine aa (slicePart_none ?_);show wpAny _ _ (if ((1:Int)==0)=V0 then _ else _) _ _ s;rw[ag (by decide)];refine aa (wk pl (aa (wk pu (aa (ah ?_)))));show wpAny _ _ (match Builtin.Slice.sliceAdjust lo hi 1 (n:Int) with | (lo,hi)=>pure (lo,(1:Int),Builtin.Slice.slicePlaces lo hi 1)) _ _ s;rw[Di lo hi n];show wpAny _ _ (pure (((sIx n 0 lo:Nat):Int),(1:Int),Builtin.Slice.slicePlaces ((sIx n 0 lo:Nat):Int) ((sIx n n hi:Nat):Int) 1)) _ _ s;rw[Dj];exact ah h
theorem Ib (xs:Array g_)(i k:Nat):((V2 k).filterMap λ(m:Nat)=>xs[((i:Int)+(m:Int)*1).toNat]?).toArray=((xs.toList.drop i).take k).toArray:=by
 have e:(λ(m:Nat)=>xs[((i:Int)+(m:Int)*1).toNat]?)=λ m=>xs[i+m]?:=by
  funext m;have:((i:Int)+(m:Int)*1).toNat=i+m:=by lia
  rw[this]
 rw[e];have:=pick_run xs i k;rw[List.filterMap_map]at this;have e2:((λ x=>xs[x]?)∘λ x=>i+x)=λ m=>xs[i+m]?:=rfl;rw[e2]at this;rw[this]
theorem sf {t sl:Addr}{items:Array g_}{vl vu:g_}{lo hi:g6 Int}{Q:g0}(ht:IsTup s.heap t items)(hs:s.heap.IsSliceOf sl vl vu .none)(pl:IsPart vl lo)(pu:IsPart vu hi)
  (hw:¬ (sIx items.size 0 lo=0/\sIx items.size items.size hi=items.size))
  (h:Q (.ref s.heap.objs.size) {s with heap:=s.heap.push {cls:=.type "tuple",data:=.seq ((items.toList.drop (sIx items.size 0 lo)).take (sIx items.size items.size hi-sIx items.size 0 lo)).toArray}})
  (hsz:items.size<=sizeLine):wpAny (model prog w) A (getItem (.ref t) (.ref sl)) Q E s:=by
 have htake:sizeOk (.seq ((items.toList.drop (sIx items.size 0 lo)).take (sIx items.size items.size hi-sIx items.size 0 lo)).toArray):=by show((items.toList.drop (sIx items.size 0 lo)).take (sIx items.size items.size hi-sIx items.size 0 lo)).toArray.size<=sizeLine;rw[aC,dY,List.length_drop,cw];lia (config:={})
 have hj:sIx items.size items.size hi<=items.size:=O6 _ _ (aq _) hi;obtain⟨os,hos,hcs,hds⟩:=id hs;have hTs:s.TypeIs (.ref sl) "slice":=⟨os,hos,hcs⟩;unfold getItem;try with_reducible refine bT ?_
 first | refine aa (ah ?_) | skip
 refine aa (wpAny_sequenceKey ht.typeIs (by decide) ?_);refine aa (bS (name:=Str.ofString "__getitem__") ht.typeIs bQ
  (bV bQ ht.typeIs entry_tuple_getitem ?_ (args_tuple_getitem _ _)))
 show wpAny _ _ (Builtin.Tuple.tupleItemsOf (.ref t)>>=_) _ _ s;refine aa (tupleItemsOf_ ht ?_);refine aa (fU hTs ?_);rw[ae (by decide)];refine aa (nX hs pl pu ?_);have hno:¬ ((((sIx items.size 0 lo:Nat):Int)==0&&(1:Int)==1&&(sIx items.size items.size hi-sIx items.size 0 lo)==items.size)=V0):=by intro q;rw[bJ,bJ]at q;have q1:((sIx items.size 0 lo:Nat):Int)=0:=eq_of_beq q.1.1;have q2:sIx items.size items.size hi-sIx items.size 0 lo=items.size:=eq_of_beq q.2;exact hw ⟨by lia (config:={}),by lia (config:={})⟩
 show wpAny _ _ (if (((sIx items.size 0 lo:Nat):Int)==0&&(1:Int)==1&&(sIx items.size items.size hi-sIx items.size 0 lo)==items.size)=V0 then _ else _) _ _ s;rw[ag hno,Ib];first
  | exact aa (m:=Builtin.Tuple.tupleExact _) (bL (ah ⟨_,rfl,ah h⟩) htake)
  | exact aa (m:=Builtin.Tuple.tupleExact _) (bL (aa (ah (ah ⟨_,rfl,ah h⟩))) htake)
  | exact aa (aa (m:=Builtin.Tuple.tupleExact _) (bL (ah (ah ⟨_,rfl,ah h⟩)) htake))
  | exact aa (aa (m:=Builtin.Tuple.tupleExact _) (bL (ah ⟨_,rfl,ah h⟩) htake))
end
end HT
namespace L2
open PySem PySem.Spec PyProof.Rows
abbrev TO:=St->Hp->(g6 Int->Hp->Prop)->Prop
def PO (X:Cx)(e:g6 Expr)(t:TO):Prop :=
 ∀ (pins:hJ) (s:hE) (σ:St) (H:Hp) (Q:g6 Int->Hp->Prop),Inv X pins σ H s->t σ H Q ->
  wpAny (model X.prog X.w) X.A (evalPart e X.env) (λ u s'=>∃ o H',Inv X pins σ H' s'/\IsPart u o/\Q o H') X.xe s
def Ly:TO:=λ _ H Q=>Q My H
def RC (t:TE):TO:=λ σ H Q=>t σ H λ x H1=>∃ i,x=.int i/\Q (kb i) H1
theorem intsAre_of {ns:List Int}:∀ {us:List g_},Vals (ns.map V.int) us->IntsAre us ns:=by
 induction ns with
 | nil=>intro us r;rw[eE]at r;cases r;exact .nil
 | cons n ns ih =>
  intro us r;rw[au]at r;cases r with
  | cons r1 r2 =>obtain⟨t,e⟩:=r1;subst e;exact .cons n t (ih r2)
section
variable {X:Cx}{e:Expr}{te:TE}{lo hi:g6 Expr}{tl th:TO}{pos p2:Pos}
theorem EX:PO X My Ly:=by intro pins s σ H Q I h;rw[evalPart_none];exact ah ⟨My,H,I,.none,h⟩
theorem EY (h:PE X e te):PO X (kb e) (RC te):=by intro pins s σ H Q I hw;rw[evalPart_some];refine thn (h pins s σ H _ I hw) λ u s1 ⟨x,H1,I1,r1,q1⟩=>?_;obtain⟨i,rfl,q⟩:=q1;obtain⟨t,rfl⟩:=r1;exact⟨kb i,H1,I1,.int i t,q⟩
def SlR (X:Cx)(r:V->g6 Int->g6 Int->Hp->VK->Prop):Prop :=
 ∀ (pins:hJ) (s:hE) (σ:St) (H:Hp) (x:V) (v vl vu:g_) (lo hi:g6 Int) (sl:Addr) (Q:VK),Inv X pins σ H s->RelV x v->s.heap.IsSliceOf sl vl vu .none->IsPart vl lo->IsPart vu hi->r x lo hi H Q ->
  ∃ T id,typeLookup (.type T) "__getitem__"=pure (kb (.builtin id))/\s.TypeIs v T/\wpAny (model X.prog X.w) X.A (getItem v (.ref sl)) (EP X pins σ Q) X.xe s
theorem SlR.or {r r':V->g6 Int->g6 Int->Hp->VK->Prop}(h:SlR X r)(h':SlR X r'):SlR X (λ x lo hi H Q=>r x lo hi H Q\/r' x lo hi H Q):=by
 intro pins s σ H x v vl vu lo hi sl Q I rx hs pl pu q;rcases q with q | q
 ·exact h pins s σ H x v vl vu lo hi sl Q I rx hs pl pu q
 ·exact h' pins s σ H x v vl vu lo hi sl Q I rx hs pl pu q
def tSl (r:V->g6 Int->g6 Int->Hp->VK->Prop)(te:TE)(tl th:TO):TE:=λ σ H Q=>te σ H λ x H1=>tl σ H1 λ l H2=>th σ H2 λ u H3=>r x l u H3 Q
theorem Bl {r:V->g6 Int->g6 Int->Hp->VK->Prop}(hr:SlR X r)(he:PE X e te)(hl:PO X lo tl)(hu:PO X hi th):PE X (.Subscript e (.Slice lo hi My p2) pos) (tSl r te tl th):=by intro pins s σ H Q I h;refine Subscript_ (thn (he pins s σ H _ I h) λ v s1 ⟨x,H1,I1,r1,q1⟩=>?_);refine wpAny_Slice (thn (hl pins s1 σ H1 _ I1 q1) λ vl s2 ⟨l,H2,I2,pl,q2⟩=>thn (hu pins s2 σ H2 _ I2 q2) λ vu s3 ⟨u,H3,I3,pu,q3⟩=>?_);rw[evalPart_none];refine ah ?_;have I4:Inv X pins σ H3 {s3 with heap:=s3.heap.push {cls:=.type "slice",data:=.fields #[vl,vu,.none]}}:=I3.kept (t':=s3.toks) λ b ob q=>ai _ q;obtain⟨T,id,hT,ht,hg⟩:=hr pins {s3 with heap:=s3.heap.push {cls:=.type "slice",data:=.fields #[vl,vu,.none]}} σ H3 x v vl vu l u s3.heap.objs.size Q I4 r1 (Heap.IsSliceOf.new ..) pl pu q3;show wpAny (model X.prog X.w) X.A (subscriptTail e (.Slice lo hi My p2) v (.ref s3.heap.objs.size)) (EP X pins σ Q) X.xe {s3 with heap:=s3.heap.push {cls:=.type "slice",data:=.fields #[vl,vu,.none]}};exact tail_any (ops:=[.ref s3.heap.objs.size,v]) ht hT hg (by with_unfolding_all rfl)
def yo (xs:List V)(lo hi:g6 Int):List V:=(xs.drop (HT.sIx xs.length 0 lo)).take (HT.sIx xs.length xs.length hi-HT.sIx xs.length 0 lo)
theorem uX (xs:List V)(lo hi:g6 Int):(yo xs lo hi).length<=xs.length:=by unfold yo;rw[dY,List.length_drop];lia
def Ul (K:g9):V->g6 Int->g6 Int->Hp->VK->Prop:=λ x lo hi H Q=>∃ a xs,x=.ref a/\SqT K H a xs /\
 ¬ (HT.sIx xs.length 0 lo=0/\HT.sIx xs.length xs.length hi=xs.length)/\∀ p,H p=My->Q (.ref p) (upd H p (.tup (yo xs lo hi)))
theorem O7:SlR X (Ul X.K):=by
 intro pins s σ H x v vl vu lo hi sl Q I rx hs pl pu h;obtain⟨a,xs,rfl,hx,hw,q⟩:=h;cases rx;obtain⟨its,r,ht,hz⟩:=I.tuple hx;have hlen:its.toArray.size=xs.length:=by rw[aC];exact r.length.symm
 refine⟨"tuple",_,bQ.lookup,ht.typeIs,?_⟩;refine HT.sf ht hs pl pu (by rw[hlen];exact hw) ?_ (by rw[hlen];exact hz);rw[hlen];refine⟨.ref s.heap.objs.size,_,I.laid (t':=s.toks) (o:=.tup (yo xs lo hi)) (λ b ob q=>ai _ q) (aq _) ?_,rfl,q _ (I.hok.fresh (aq _))⟩;exact⟨⟨bg (uX xs lo hi) hz,_,aK _ rfl,rfl⟩,_,(r.drop (HT.sIx xs.length 0 lo)).take (HT.sIx xs.length xs.length hi-HT.sIx xs.length 0 lo),IsTup.new _ _⟩
def Um (K:g9):R2:=λ x y H Q=>∃ a b ns ms,x=.ref a/\y=.ref b/\SqT K H a (ns.map V.int)/\SqT K H b (ms.map V.int)/\Q (.bl (HT.lexLt ns ms)) H
theorem O8 (hu:X.A.units<cLine):OpR X (compareOp .Lt) (Um X.K):=by intro pins s σ H x y v u Q I rx ry h;obtain⟨a,b,ns,ms,rfl,rfl,ha,hb,q⟩:=h;cases rx;cases ry;obtain⟨its,r1,p1,_⟩:=I.tuple ha;obtain⟨its2,r2,p2,_⟩:=I.tuple hb;have i1:IntsAre its.toArray.toList ns:=intsAre_of r1;have i2:IntsAre its2.toArray.toList ms:=intsAre_of r2;exact HT.Dh p1 p2 i1 i2 hu ⟨.bl (HT.lexLt ns ms),H,I,rfl,q⟩
def RE (K:g9):R2:=λ x y H Q=>∃ a b xs ys,x=.ref a/\y=.ref b/\SqT K H a xs/\SqT K H b ys/\xs≠[]/\xs.length+ys.length<=sizeLine /\
 (ys=[]->Q (.ref a) H)/\(ys≠[]->∀ p,H p=My->Q (.ref p) (upd H p (.tup (xs++ys))))
theorem Vals.zT {xs:List V}{us:List g_}(r:Vals xs us):us=[]↔xs=[]:=by
 cases r with
 | nil=>simp
 | cons _ _=>simp
theorem Lz:OpR X (binaryOp .Add) (RE X.K):=by intro pins s σ H x y v u Q I rx ry h;obtain⟨a,b,xs,ys,rfl,rfl,ha,hb,hx,hz,q1,q2⟩:=h;cases rx;cases ry;obtain⟨its,r1,p1,_⟩:=I.tuple ha;obtain⟨its2,r2,p2,_⟩:=I.tuple hb;refine HT.Lx p1 p2 (λ z=>hx (r1.zT.mp z)) (λ z=>⟨.ref a,H,I,rfl,q1 (r2.zT.mp z)⟩) (λ z=>?_) (by rw[<-r1.length,<-r2.length];exact hz);refine⟨.ref s.heap.objs.size,_,I.laid (t':=s.toks) (o:=.tup (xs++ys)) (λ b ob q=>ai _ q) (aq _) ?_,rfl,q2 (λ w=>z (r2.zT.mpr w)) _ (I.hok.fresh (aq _))⟩;exact⟨⟨by rw[aQ];exact hz,_,aK _ rfl,rfl⟩,_,r1.append r2,IsTup.new _ _⟩
end
def ixN (n:Nat)(i:Int):g6 Nat:=if 0<=i then (if i<n then kb i.toNat else My) else if -(n:Int)<=i then kb (i+n).toNat else My
def atI {α:Type}(xs:List α)(i:Int):g6 α:=(ixN xs.length i).bind λ j=>xs[j]?
theorem EZ {n:Nat}{i:Int}{j:Nat}(h:ixN n i=kb j):seqIndex? i n=kb j/\j<n/\-(n:Int)<=i/\i<n:=by
 unfold ixN at h;by_cases h0:0<=i
 ·rw[ae h0]at h
  by_cases h1:i<n
  ·rw[ae h1]at h;have e:i.toNat=j:=aF h;exact⟨by rw[seqIndex_of h0 h1,e],by lia,by lia,h1⟩
  ·rw[ag h1]at h;cases h
 ·rw[ag h0]at h
  by_cases h1:-(n:Int)<=i
  ·rw[ae h1]at h;have e:(i+n).toNat=j:=aF h;exact⟨by rw[seqIndex_neg (by lia) h1,e],by lia,h1,by lia⟩
  ·rw[ag h1]at h;cases h
theorem E1 {α:Type}{xs:List α}{i:Int}{v:α}(h:atI xs i=kb v):∃ j,seqIndex? i xs.length=kb j/\xs[j]?=kb v/\j<xs.length/\-(xs.length:Int)<=i/\i<xs.length:=by
 unfold atI at h;cases e:ixN xs.length i with
 | none=>rw[e]at h;cases h
 | some j =>rw[e]at h;obtain⟨h1,h2,h3,h4⟩:=EZ e;exact⟨j,h1,h,h2,h3,h4⟩
theorem oK {α:Type}{xs:List α}{j:Nat}{v:α}(h:xs[j]?=kb v):atI xs (j:Int)=kb v:=by
 have hj:j<xs.length:=(a_.mp h).1;have e:ixN xs.length (j:Int)=kb j:=by unfold ixN;rw[ae (by lia),ae (by lia)];simp
 unfold atI;rw[e];exact h
theorem Ic {α:Type}(xs:List α)(v:α):atI (xs++[v]) (-1)=kb v:=by
 have hl:(xs++[v]).length=xs.length+1:=by simp
 have e:ixN (xs++[v]).length (-1)=kb xs.length:=by unfold ixN;rw[hl,ag (by decide),ae (by lia)];congr 1;lia
 unfold atI;rw[e];show(xs++[v])[xs.length]?=kb v;simp
def E2 (b:Expr):Prop:=∀ o i,subscripted b V1 o i=operate [o,i] (getItem o i)
def IxR (X:Cx)(r:R2):Prop :=
 ∀ (value slice:Expr) (pins:hJ) (s:hE) (σ:St) (H:Hp) (x y:V) (v u:g_) (Q:VK),Inv X pins σ H s->RelV x v->RelV y u->r x y H Q ->
  subscripted slice V1 v u=operate [v,u] (getItem v u)->wpAny (model X.prog X.w) X.A (subscriptTail value slice v u) (EP X pins σ Q) X.xe s
def MtR (X:Cx)(id:String)(r:V->List V->Hp->VK->Prop):Prop :=
 ∀ (pins:hJ) (s:hE) (σ:St) (H:Hp) (x:V) (xs:List V) (v:g_) (us:List g_) (Q:VK),Inv X pins σ H s->RelV x v->Vals xs us->r x xs H Q ->
  wpAny (model X.prog X.w) X.A (call (.builtin id) (v::us)) (EP X pins σ Q) X.xe s
section
variable {X:Cx}{a b:Expr}{ta tb:TE}{pos:Pos}
theorem nY {r:R2}(hr:IxR X r)(ha:PE X a ta)(hb:PE X b tb)(hs:E2 b):PE X (.Subscript a b pos) (tOp r ta tb):=by intro pins s σ H Q I h;exact Subscript_ (OY ha hb I h λ v u s2 x y H2 I2 rx ry q=>hr a b pins s2 σ H2 x y v u Q I2 rx ry q (hs _ _))
def wm (K:g9):R2:=λ x y H Q=>∃ p xs i v,x=.ref p/\y=.int i/\SqL K H p xs/\atI xs i=kb v/\Q v H
def Uo (K:g9):R2:=λ x y H Q=>∃ p xs i v,x=.ref p/\y=.int i/\SqT K H p xs/\atI xs i=kb v/\Q v H
theorem lV:IxR X (wm X.K):=by
 intro value slice pins s σ H x y v u Q I rx ry h hs;obtain⟨p,xs,i,z,rfl,rfl,hq,he,q⟩:=h;cases rx;obtain⟨t,rfl⟩:=ry;obtain⟨its,r,pl,hz⟩:=I.list hq;obtain⟨j,h1,h2,h3,h4,h5⟩:=E1 he;obtain⟨w,ew,rw'⟩:=r.get h2;have hl:=r.length;have hn:=rz;have fin:EP X pins σ Q w s:=⟨z,H,I,rw',q⟩;by_cases h0:0<=i
 ·have hj:i.toNat=j:=by
   rw[seqIndex_of h0 h5]at h1;exact aF h1
  exact item_listR pl.isList h0 (by lia) (by rw[hj];simpa using ew) fin hs
 ·have hj:(i+(its.toArray.size:Int)).toNat=j:=by
   rw[seqIndex_neg (by lia) h4]at h1;rw[aC,<-hl];exact aF h1
  exact subscriptTail_builtinR (x:=w) pl.isList.typeIs slot_list_getitem.lookup
   (wpAny_getItem_list_neg (Q:=λ r s'=>r=w/\EP X pins σ Q r s') pl.isList (by lia) (by rw[aC]<;>lia) (by lia) (by rw[hj];simpa using ew) ⟨rfl,fin⟩) hs
theorem zU:IxR X (Uo X.K):=by
 intro value slice pins s σ H x y v u Q I rx ry h hs;obtain⟨p,xs,i,z,rfl,rfl,hq,he,q⟩:=h;cases rx;obtain⟨t,rfl⟩:=ry;obtain⟨its,r,pl,hz⟩:=I.tuple hq;obtain⟨j,h1,h2,h3,h4,h5⟩:=E1 he;obtain⟨w,ew,rw'⟩:=r.get h2;have hl:=r.length;have hn:=rz;have fin:EP X pins σ Q w s:=⟨z,H,I,rw',q⟩;exact subscriptTail_builtinR (x:=w) pl.typeIs slot_tuple_getitem.lookup
  (getItem_tuple (j:=j) (Q:=λ r s'=>r=w/\EP X pins σ Q r s') pl (by lia) (by lia) (by rw[aC,<-hl];exact h1) (by simpa using ew) ⟨rfl,fin⟩) hs
theorem Dl (its:List g_)(n j:Nat)(u:g_):Obj.mapSeq (·.setIfInBounds j u) {cls:=.type "list",data:=.seq its.toArray n}={cls:=.type "list",data:=.seq (its.set j u).toArray n}:=by simp[Obj.mapSeq]
theorem Inv.lst {pins:hJ}{σ:St}{H:Hp}{s:hE}{p:Addr}{xs:List V}(I:Inv X pins σ H s)(h:H p=kb (.lst xs)) :
  ∃ (its:List g_) (n:Nat),Vals xs its/\s.heap.get? p=kb {cls:=.type "list",data:=.seq its.toArray n}/\xs.length<=sizeLine:=by
 obtain⟨z,its,n,r,e⟩:=I.hok p _ h;exact⟨its,n,r,e,z⟩
theorem Inv.O9 {pins:hJ}{σ:St}{H:Hp}{s:hE}{p:Addr}{xs ys:List V}{its its':List g_}{n n':Nat}{f:Obj->Obj}(I:Inv X pins σ H s)(h:H p=kb (.lst xs))
  (ho:s.heap.get? p=kb {cls:=.type "list",data:=.seq its.toArray n}) (hf:f {cls:=.type "list",data:=.seq its.toArray n}={cls:=.type "list",data:=.seq its'.toArray n'}) (r:Vals ys its') (hz:ys.length<=sizeLine) (t:Nat) :
  Inv X pins σ (upd H p (.lst ys)) {s with heap:=s.heap.update p f,toks:=t}:=by
 have e:(s.heap.update p f).get? p=kb {cls:=.type "list",data:=.seq its'.toArray n'}:=by rw[dE f ho (by rw[hf]<;>rfl),hf]
 refine I.write (x:=p) (e:=p) (by rw[h];trivial) (.inl rfl) (λ b u hb q=>(Heap.get?_update_other _ _ (aY hb)).trans q) ⟨_,e⟩ ?_;exact⟨hz,its',n',r,e⟩
def E3:V->V->V->Hp->(Hp->Prop)->Prop:=λ o i v H Q=>∃ p xs k j,o=.ref p/\i=.int k/\H p=kb (.lst xs)/\ixN xs.length k=kb j/\Q (upd H p (.lst (xs.set j v)))
theorem set_list:Rv X E3:=by
 intro pins s σ H o i v ov iv u Q I ro ri rv h;obtain⟨p,xs,k,j,rfl,rfl,hp,hj,q⟩:=h;cases ro;obtain⟨t,rfl⟩:=ri;obtain⟨its,n,r,ho,hz⟩:=I.lst hp;obtain⟨h1,h2,h3,h4⟩:=EZ hj;have hl:=r.length;have hn:=rz;have I':Inv X pins σ (upd H p (.lst (xs.set j v))) {s with heap:=s.heap.update p (Obj.mapSeq (·.setIfInBounds j u))} :=
  I.O9 hp ho (Dl its n j u) (r.set rv j) (by rw[List.length_set];exact hz) s.toks
 by_cases h0:0<=k
 ·have hk:k.toNat=j:=by
   rw[seqIndex_of h0 h4]at h1;exact aF h1
  exact PySem.W.ki_setAt ho h0 (by lia) (by rw[aC,<-hl];exact h4) (by rw[hk];exact⟨_,I',q⟩)
 ·have hk:(k+(its.toArray.size:Int)).toNat=j:=by
   rw[seqIndex_neg (by lia) h3]at h1;rw[aC,<-hl];exact aF h1
  exact PySem.W.ki_setBack ho (by lia) (by rw[aC,<-hl];exact h3) (by lia) (by rw[hk];exact⟨_,I',q⟩)
theorem zV (lo hi:g6 Int)(n:Nat):(sliceBounds lo hi My n).1=((HT.sIx n 0 lo:Nat):Int)/\(sliceBounds lo hi My n).2.1=((HT.sIx n n hi:Nat):Int)/\(sliceBounds lo hi My n).2.2=1:=by
 refine⟨?_,?_,rfl⟩
 ·cases lo with
  | none=>simp[sliceBounds,HT.sIx]
  | some i =>
   simp only[sliceBounds,HT.sIx,Option.getD_none,show(1:Int)>0 by decide,cJ];by_cases h:i<0
   ·simp only[h,cJ]<;>lia
   ·simp only[h,bP]<;>lia
 ·cases hi with
  | none=>simp[sliceBounds,HT.sIx]
  | some i =>
   simp only[sliceBounds,HT.sIx,Option.getD_none,show(1:Int)>0 by decide,cJ];by_cases h:i<0
   ·simp only[h,cJ]<;>lia
   ·simp only[h,bP]<;>lia
theorem yp (its:List g_)(lo hi:g6 Int):slicePick its.toArray lo hi My=((its.drop (HT.sIx its.length 0 lo)).take (HT.sIx its.length its.length hi-HT.sIx its.length 0 lo)).toArray:=by obtain⟨h1,h2,h3⟩:=zV lo hi its.toArray.size;unfold slicePick;rw[h1,h2,h3];simp only[sliceRange_one,pick_run,aC]<;>rfl
def Up (K:g9):V->g6 Int->g6 Int->Hp->VK->Prop:=λ x lo hi H Q=>∃ a xs,x=.ref a/\SqL K H a xs/\∀ p,H p=My->Q (.ref p) (upd H p (.lst (yo xs lo hi)))
theorem LA:SlR X (Up X.K):=by intro pins s σ H x v vl vu lo hi sl Q I rx hs pl pu h;obtain⟨a,xs,rfl,hx,q⟩:=h;cases rx;obtain⟨its,r,ht,hz⟩:=I.list hx;have hlen:=r.length;refine⟨"list",_,slot_list_getitem.lookup,ht.isList.typeIs,?_⟩;refine wpAny_getItem_list_slice ht.isList hs pl pu .none (by simp) ?_ (by rw[aC]<;>lia);rw[yp,<-hlen];refine⟨.ref s.heap.objs.size,_,I.laid (t':=s.toks) (o:=.lst (yo xs lo hi)) (λ b ob q=>ai _ q) (aq _) ?_,rfl,q _ (I.hok.fresh (aq _))⟩;exact⟨bg (uX xs lo hi) hz,_,0,(r.drop (HT.sIx xs.length 0 lo)).take (HT.sIx xs.length xs.length hi-HT.sIx xs.length 0 lo),aK _ rfl⟩
theorem mr:j3 X (.builtin "len") (λ xs H Q=>∃ p ys,xs=[.ref p]/\(SqL X.K H p ys\/SqT X.K H p ys)/\Q (.int ys.length) H):=by
 intro pins s σ H xs us Q I r h;obtain⟨p,ys,rfl,hq,q⟩:=h;obtain⟨u,rfl,rx⟩:=vals1 r;cases rx;have hn:=rz;rcases hq with hq | hq
 ·obtain⟨its,r',pl,hz⟩:=I.list hq;have hlen:=r'.length;exact Calls.call_len_list pl.isList (by simp only[aC]<;>lia) ⟨.int ys.length,H,I.tok _,⟨s.toks+1,by rw[aC,hlen]⟩,q⟩
 ·obtain⟨its,r',pl,hz⟩:=I.tuple hq;have hlen:=r'.length;exact len_tuple pl (by simp only[aC]<;>lia) ⟨.int ys.length,H,I.tok _,⟨s.toks+1,by rw[aC,hlen]⟩,q⟩
theorem zW:j3 X (.type "list") (λ xs H Q=>∃ p ys,xs=[.ref p]/\(SqL X.K H p ys\/SqT X.K H p ys)/\∀ l,H l=My->Q (.ref l) (upd H l (.lst ys))):=by
 intro pins s σ H xs us Q I r h;obtain⟨p,ys,rfl,hq,q⟩:=h;obtain⟨u,rfl,rx⟩:=vals1 r;cases rx;have fin:∀ (its:List g_),Vals ys its->ys.length<=sizeLine->∀ (h':Heap) (c':Nat),(∀ b o',s.heap.get? b=kb o'->h'.get? b=kb o') ->
   h'.get? s.heap.objs.size=kb {cls:=.type "list",dict:=My,data:=.seq its.toArray c',slots:=#[]}->EP X pins σ Q (.ref s.heap.objs.size) {s with heap:=h'}:=λ its r' hz h' c' kp e =>
  ⟨.ref s.heap.objs.size,_,I.laid (t':=s.toks) kp (aq _) (show jO X.prog X.w _ h' _ (.lst ys) from ⟨hz,its,c',r',e⟩),rfl,q _ (I.hok.fresh (aq _))⟩
 rcases hq with hq | hq
 ·obtain⟨its,r',pl,hz⟩:=I.list hq;have hlen:=r'.length;obtain⟨o,ho,hc,n,hd⟩:=pl.isList;exact call_list_seq p (.inl rfl) ho hc hd (λ h' c' kp e=>fin its r' hz h' c' kp e) (by simp only[aC]<;>lia)
 ·obtain⟨its,r',pl,hz⟩:=I.tuple hq;have hlen:=r'.length;obtain⟨o,ho,hc,n,hd⟩:=pl;exact call_list_seq p (.inr rfl) ho hc hd (λ h' c' kp e=>fin its r' hz h' c' kp e) (by simp only[aC]<;>lia)
theorem qY:j3 X (.type "tuple") (λ xs H Q=>∃ p ys,xs=[.ref p]/\((SqL X.K H p ys/\∀ l,H l=My->Q (.ref l) (upd H l (.tup ys)))\/(SqT X.K H p ys/\Q (.ref p) H))):=by
 intro pins s σ H xs us Q I r h;obtain⟨p,ys,rfl,h⟩:=h;obtain⟨u,rfl,rx⟩:=vals1 r;cases rx;rcases h with⟨hq,q⟩ | ⟨hq,q⟩
 ·obtain⟨its,r',pl,hz⟩:=I.list hq
  have hlen:=r'.length;refine call_tuple_list pl.isList (λ h' kp=>?_) (by simp only[aC]<;>lia);have I1:Inv X pins σ H {s with heap:=h'}:=I.kept (t':=s.toks) kp;have I2:Inv X pins σ (upd H h'.objs.size (.tup ys)) {s with heap:=h'.push {cls:=.type "tuple",data:=.seq its.toArray}} :=
   I1.laid (t':=s.toks) (λ b o e=>ai _ e) (aq _) (show jO X.prog X.w _ _ _ (.tup ys) from ⟨⟨hz,_,aK _ rfl,rfl⟩,its,r',IsTup.new _ _⟩)
  exact⟨.ref h'.objs.size,_,I2,rfl,q _ (I1.hok.fresh (aq _))⟩
 ·obtain⟨its,r',pl,hz⟩:=I.tuple hq;exact call_tuple_same pl ⟨.ref p,H,I,rfl,q⟩
def tyV (K:g9)(T:String)(x:V)(H:Hp):Prop:=match x with
 | .str _=>T="str"
 | .int _=>T="int"
 | .ref p=>(T="list"/\∃ xs,SqL K H p xs)\/(T="tuple"/\∃ o,K.lookup p=kb o/\o.cls=.type "tuple"/\o.dict=My) \/
   (T="dict"/\((∃ kvs,H p=kb (.dK kvs))\/∃ kvs,H p=kb (.dT kvs)))\/(T="set"/\∃ S n,H p=kb (.set S n))
 | _=>False
theorem O_ {pins:hJ}{σ:St}{H:Hp}{s:hE}{T:String}{x:V}{v:g_}(I:Inv X pins σ H s)(r:RelV x v)(ty:tyV X.K T x H) :
  s.TypeIs v T/\∀ a,v=.ref a->∃ ob,s.heap.get? a=kb ob/\ob.dict=My:=by
 cases x with
 | str z =>obtain⟨t,rfl⟩:=r;cases (show T="str" from ty);exact⟨typeIs_str s z t,λ _ e=>nomatch e⟩
 | int i =>obtain⟨t,rfl⟩:=r;cases (show T="int" from ty);exact⟨typeIs_int s i t,λ _ e=>nomatch e⟩
 | ref p =>
  cases r;rcases ty with⟨rfl,xs,hq⟩ | ⟨rfl,o,hk,hc,hd⟩ | ⟨rfl,hk⟩ | ⟨rfl,S,n,hk⟩
  ·obtain⟨its,_,pl,_⟩:=I.list hq;refine⟨pl.isList.typeIs,λ a e=>?_⟩;cases e;obtain⟨o,n,e,c,hd,_⟩:=pl;exact⟨o,e,hd⟩
  ·refine⟨⟨o,I.kIn p o hk,hc⟩,λ a e=>?_⟩;cases e;exact⟨o,I.kIn _ o hk,hd⟩
  ·have z:∃ o,s.heap.get? p=kb o/\o.ExactDict:=by
    rcases hk with⟨kvs,hk⟩ | ⟨kvs,hk⟩
    ·obtain⟨_,_,_,_,o,_,_,e,ex,_⟩:=I.hok p _ hk;exact⟨o,e,ex⟩
    ·obtain⟨_,_,_,_,o,_,_,e,ex,_⟩:=I.hok p _ hk;exact⟨o,e,ex⟩
   obtain⟨o,e,ex⟩:=z;refine⟨⟨o,e,ex.1⟩,λ a e2=>?_⟩;cases e2;exact⟨o,e,ex.2.1⟩
  ·obtain⟨o,_,_,_,e,ex,_⟩:=I.hok p _ hk;refine⟨⟨o,e,ex.1⟩,λ a e2=>?_⟩;cases e2;exact⟨o,e,ex.2.1⟩
 | _=>exact False.elim ty
def tBM (K:g9)(T:String)(r:V->List V->Hp->VK->Prop)(to:TE)(t:TA):TE:=λ σ H Q=>to σ H λ x H1=>tyV K T x H1/\t σ H1 λ xs H2=>r x xs H2 Q
variable {o e:Expr}{es:List Expr}{to:TE}{t:TA}{name:Str}{apos cpos:Pos}{T id:String}{r:V->List V->Hp->VK->Prop}
theorem wo (pa:PlainAttrs T)(slot:Slot T name id)(hty:typeOf (.builtin id)=pure (.type "method_descriptor"))(hm:MtR X id r)(ho:PE X o to)(ha:PA X (e::es) t)
  (hbase:attributeBase o name X.env (eval o X.env)=eval o X.env:=by rfl)
  (hfew:((backTo cpos (starEach (e::es) X.env)).all (λ x=>!x.1)&&(backToKw cpos (keywordEach [] X.env)).all (λ x=>x.1.isSome)
   && decide ((e::es).length+([]:List Keyword).length+(if ([]:List Keyword).isEmpty then 0 else 1)<30))=V0:=by rfl)
  (hline:(apos.endLine==cpos.line)=V0:=by rfl) (hs:starEach (e::es) X.env=(V1,eval e X.env)::starEach es X.env:=by rfl) (hplain:(backTo cpos (starEach es X.env)).any (·.1)=V1:=by rfl) :
  PE X (.Call (.Attribute o name apos) (e::es) [] cpos) (tBM X.K T r to t):=by
 intro pins s σ H Q I h;refine wpAny_Call_method_late hbase hfew hline rfl (thn (ho pins s σ H _ I h) λ v s1 ⟨x,H1,I1,r1,ty,q1⟩=>?_);obtain⟨h1,h2⟩:=O_ I1 r1 ty;refine⟨T,id,pa,slot,hty,h1,h2,?_⟩;have hA:=ha cpos pins s1 σ H1 _ I1 q1;rw[hs]at hA ⊢;refine Calls.callWith_builtin (by show(V1 || (backTo cpos (starEach es X.env)).any (·.1))=V1;rw[hplain]<;>rfl) (Calls.evalArgs_plain ?_);exact thn hA λ us s2 ⟨vs,H2,I2,r2,q2⟩=>hm pins s2 σ H2 x vs v us Q I2 r1 r2 q2
end
def MtM (X:Cx)(id:String)(r:V->List V->Hp->VK->Prop):Prop :=
 ∀ (pins:hJ) (s:hE) (σ:St) (H:Hp) (x:V) (xs:List V) (v:g_) (us:List g_) (Q:VK),Inv X pins σ H s->RelV x v->Vals xs us->r x xs H Q ->
  wpAny (model X.prog X.w) X.A (call (.builtin id) (v::us)) (EP X pins σ Q) X.xe s
theorem Vals.one:∀ {x:V} {us:List g_},Vals [x] us->∃ u,us=[u]/\RelV x u
 := by
 intro x us h;cases h with
 | cons r q=>cases q;exact⟨_,rfl,r⟩
theorem Vals.eraseIdx:∀ {xs:List V} {us:List g_} (i:Nat),Vals xs us->Vals (xs.eraseIdx i) (us.eraseIdx i)
 | _,_,_,.nil=>.nil
 | _,_,0,.cons _ t=>t
 | _,_,i+1,.cons r t=>.cons r (Vals.eraseIdx i t)
theorem Vals.rep {xs:List V}{us:List g_}(h:Vals xs us):∀ k:Nat,Vals (V3 k xs).flatten (V3 k us).flatten
 | 0=>.nil
 | k+1=>by rw[da,da,eA,eA];exact Vals.append h (Vals.rep h k)
theorem yU {α:Type}:∀ (l:List α) (i:Nat),(l.eraseIdx i).length<=l.length
 | [],_=>aq _
 | _::_,0=>gm _
 | _::r,i+1=>Nat.succ_le_succ (yU r i)
theorem foldl_rep (its:List g_):∀ (k:Nat) (acc:List g_),
  List.foldl (λ x1 x2=>x1++x2) acc.toArray (V3 k its.toArray)=(acc++(V3 k its).flatten).toArray
 | 0,acc=>by simp
 | k+1,acc=>by
  have e:acc.toArray++its.toArray=(acc++its).toArray:=by simp
  have e2:(acc++its)++(V3 k its).flatten=acc++(V3 (k+1) its).flatten:=by rw[da,eA,dP]
  rw[<-e2,<-foldl_rep its k (acc++its),<-e,da,cA]
section
variable {X:Cx}{pins:hJ}{σ:St}{H:Hp}{s:hE}{l b:Addr}{xs ys zs:List V}
theorem Inv.Pa {its its':List g_}{n:Nat}{f:Array g_->Array g_}{t':Nat}(I:Inv X pins σ H s)(hH:H l=kb (.lst xs))
  (e:s.heap.get? l=kb {cls:=.type "list",data:=.seq its.toArray n}) (hf:f its.toArray=its'.toArray) (hv:Vals ys its') (hz:ys.length<=sizeLine) :
  Inv X pins σ (upd H l (.lst ys)) {s with heap:=s.heap.update l (Obj.mapSeq f),toks:=t'}:=by
 have q:=PySem.IsL.update e f;rw[hf]at q;refine I.write (x:=l) (e:=l) (by rw[hH];exact trivial) (.inl rfl) (λ b' u hb hu=>(Heap.get?_update_other s.heap (Obj.mapSeq f) (aY hb)).trans hu) ⟨_,q⟩ ?_;exact⟨hz,its',_,hv,q⟩
theorem Inv.RF {its:List g_}{t':Nat}(I:Inv X pins σ H s)(hv:Vals ys its)(hz:ys.length<=sizeLine) :
  Inv X pins σ (upd H s.heap.objs.size (.lst ys)) {s with heap:=s.heap.push {cls:=.type "list",data:=.seq its.toArray},toks:=t'} :=
 I.laid (λ _ _ q=>ai _ q) (aq _) ⟨hz,its,0,hv,aK _ rfl⟩
theorem Inv.fresh (I:Inv X pins σ H s):H s.heap.objs.size=My:=I.hok.fresh (aq _)
theorem Inv.Dm (I:Inv X pins σ H s)(hH:H l=kb (.lst xs)):xs.length<=sizeLine/\∃ (its:List g_) (n:Nat),Vals xs its/\xs.length=its.length/\s.heap.get? l=kb {cls:=.type "list",data:=.seq its.toArray n}:=by obtain⟨z,its,n,r,e⟩:=I.hok l _ hH;exact⟨z,its,n,r,r.length,e⟩
theorem Bm {n:Nat}(h:n<=sizeLine):Builtin.List.listTooLong n=V1:=by unfold Builtin.List.listTooLong;exact decide_eq_false (by lia)
end
section
variable {X:Cx}
def vM:V->List V->Hp->VK->Prop:=λ x vs H Q=>∃ l xs y,x=.ref l/\vs=[y]/\H l=kb (.lst xs)/\xs.length<sizeLine/\Q .non (upd H l (.lst (xs++[y])))
theorem tX:MtM X "list.append" vM:=by intro pins s σ H x vs v us Q I rx rv h;obtain⟨l,xs,y,rfl,rfl,hH,hz,q⟩:=h;cases rx;obtain⟨u,rfl,ru⟩:=rv.one;obtain⟨z,its,n,r,hl,e⟩:=I.Dm hH;refine call_meets F.slot_list_append ⟨_,e,rfl⟩ F.entry_list_append (F.args_list_append_2 _ _) (PySem.list_append l its.toArray n u (by rw[aC];lia)) ⟨e,?_⟩;refine⟨.non,_,I.Pa (its':=its++[u]) hH e (by simp) (r.append (.cons ru .nil)) ?_,rfl,q⟩;rw[aQ,cy];lia
def LB:V->List V->Hp->VK->Prop:=λ x vs H Q=>∃ l b xs zs,x=.ref l/\vs=[.ref b]/\H l=kb (.lst xs)/\H b=kb (.lst zs)/\xs.length+zs.length<=sizeLine/\Q .non (upd H l (.lst (xs++zs)))
theorem Gp:MtM X "list.extend" LB:=by
 intro pins s σ H x vs v us Q I rx rv h;obtain⟨l,b,xs,zs,rfl,rfl,hH,hB,hz,q⟩:=h;cases rx;obtain⟨u,rfl,ru⟩:=rv.one;cases ru;obtain⟨z,its,n,r,hl,e⟩:=I.Dm hH;obtain⟨z2,its2,n2,r2,hl2,e2⟩:=I.Dm hB;have hsz:its.toArray.size+its2.toArray.size<=sizeLine:=by rw[aC,aC];lia
 have hlong:¬ (!its.toArray.isEmpty&&Builtin.List.listTooLong (its.toArray.size+its2.toArray.size))=V0:=by rw[Bm hsz,fX];exact ax
 refine call_meets F.slot_list_extend ⟨_,e,rfl⟩ F.entry_list_extend (F.args_list_extend_2 _ _)
  (AutoSeq1.list_extend_list_list_0 l its.toArray n b its2.toArray n2 hlong (by rw[aC];lia) (by lia)) ⟨e,e2,?_⟩
 refine⟨.non,_,I.Pa (its':=its++its2) hH e (by simp) (r.append r2) ?_,rfl,q⟩;rw[aQ];lia
def Dn:V->List V->Hp->VK->Prop:=λ x vs H Q=>∃ l xs i k y,x=.ref l/\vs=[.int i]/\H l=kb (.lst xs)/\-(2 ^ 63)<=i/\i<2 ^ 63/\seqIndex? i xs.length=kb k/\xs[k]?=kb y/\Q y (upd H l (.lst (xs.eraseIdx k)))
theorem Ie:MtM X "list.pop" Dn:=by
 intro pins s σ H x vs v us Q I rx rv h;obtain⟨l,xs,i,k,y,rfl,rfl,hH,h1,h2,hk,hy,q⟩:=h;cases rx;obtain⟨u,rfl,ru⟩:=rv.one;obtain⟨t,rfl⟩:=ru;obtain⟨z,its,n,r,hl,e⟩:=I.Dm hH;obtain⟨w,hw,rw'⟩:=r.get hy;refine call_meets F.slot_list_pop ⟨_,e,rfl⟩ F.entry_list_pop (F.args_list_pop_2 _ _)
  (MeetsSeq.list_pop_at l its.toArray n i t k w (fitsIndex_both h1 h2) (by rw[aC,<-hl];exact hk) (by rw[<-bF];exact hw) (by rw[aC];lia)) ⟨e,?_⟩
 refine⟨y,_,I.Pa (its':=its.eraseIdx k) hH e ?_ (r.eraseIdx k) ?_,rw',q⟩
 ·show its.toArray.eraseIdxIfInBounds k=(its.eraseIdx k).toArray;rw[List.eraseIdxIfInBounds_toArray]
 ·have:=yU xs k;lia
def Uq:R2:=λ x y H Q=>∃ l b xs zs,x=.ref l/\y=.ref b/\H l=kb (.lst xs)/\H b=kb (.lst zs)/\xs.length+zs.length<=sizeLine/\∀ p,H p=My->Q (.ref p) (upd H p (.lst (xs++zs)))
theorem Pb:OpR X (binaryOp .Add) Uq:=by
 intro pins s σ H x y v u Q I rx ry h;obtain⟨l,b,xs,zs,rfl,rfl,hH,hB,hz,q⟩:=h;cases rx;cases ry;obtain⟨z,its,n,r,hl,e⟩:=I.Dm hH;obtain⟨z2,its2,n2,r2,hl2,e2⟩:=I.Dm hB;refine PySem.P.add_list e e2 ?_ (by rw[aC,aC];lia);have ea:its.toArray++its2.toArray=(its++its2).toArray:=by simp
 rw[ea];exact⟨.ref _,_,I.RF (t':=s.toks) (r.append r2) (by rw[aQ];lia),rfl,q _ I.fresh⟩
def RG:R2:=λ x y H Q=>∃ l k xs,x=.ref l/\y=.int k/\H l=kb (.lst xs)/\-(2 ^ 63)<=k/\k<2 ^ 63/\xs.length*k.toNat<=sizeLine /\
 ∀ p,H p=My->Q (.ref p) (upd H p (.lst (V3 k.toNat xs).flatten))
theorem len_rep {α:Type}(xs:List α)(k:Nat):(V3 k xs).flatten.length=k*xs.length:=by
 induction k with
 | zero=>simp
 | succ k ih=>rw[da,eA,aQ,ih,Nat.succ_mul,Nat.add_comm]
theorem Ig:OpR X (binaryOp .Mult) RG:=by
 intro pins s σ H x y v u Q I rx ry h;obtain⟨l,k,xs,rfl,rfl,hH,h1,h2,hz,q⟩:=h;cases rx;obtain⟨t,rfl⟩:=ry;obtain⟨z,its,n,r,hl,e⟩:=I.Dm hH;have hlen:its.toArray.size*k.toNat<=sizeLine:=by rw[aC,<-hl];exact hz
 have hcap:¬ its.toArray.size*k.toNat>(2 ^ 63-1) / 8:=by
  have:(sizeLine:Nat)<=(2 ^ 63-1) / 8:=by decide
  lia
 have hfit:¬ (!Builtin.List.listFitsIndex k)=V0:=by rw[fitsIndex_both h1 h2];exact ax
 have hlong:¬ Builtin.List.listTooLong (its.toArray.size*k.toNat)=V0:=by rw[Bm hlen];exact ax
 have hnew:List.foldl (λ x1 x2=>x1++x2) #[] (V3 (if its.toArray.isEmpty=V0 then 0 else k.toNat) its.toArray)=(V3 k.toNat its).flatten.toArray:=by
  have f0:∀ m:Nat,List.foldl (λ x1 x2=>x1++x2) #[] (V3 m its.toArray)=(V3 m its).flatten.toArray:=λ m=>by have:=foldl_rep its m [];rw[gM]at this;exact this
  rw[f0];cases its with
  | nil=>simp
  | cons a r'=>rw[ag (by simp)]
 refine wpAny_binaryOp_repeat_ref (T:="list") (U:="int") (by decide) ⟨_,e,rfl⟩ (λ s'=>typeIs_int s' k t) noFill_list_mul F.fills_int_mul F.slot_int_rmul repeat_list F.slot_int_index.lookup
  (call_meets F.slot_int_rmul (typeIs_int s k t) F.entry_int_rmul (F.args_int_rmul_2 _ _) (int___rmul___int_list k t l its.toArray n)
   ⟨e,rfl,⟨_,e,rfl⟩,call_meets F.slot_list_mul ⟨_,e,rfl⟩ F.entry_list_mul (F.args_list_mul_2 _ _) (AutoListH.list___mul___list_int_3 l its.toArray n k t hfit hcap hlong) ⟨e,?_⟩⟩)
 rw[hnew];exact⟨.ref _,_,I.RF (t':=s.toks) (r.rep k.toNat) (by rw[len_rep,Nat.mul_comm];exact hz),rfl,q _ I.fresh⟩
end
section
variable {prog:Program}{w:World}{A:Around}{E:g0}{s:hE}
end
section
variable {X:Cx}
end
section
variable {κ:Type}[DecidableEq κ]
def mK (kvs:List (κ×V))(k:κ):g6 V:=(kvs.find? λ kv=>decide (kv.1=k)).map (·.2)
def putK (kvs:List (κ×V))(k:κ)(v:V):List (κ×V) :=
 if (kvs.any λ kv=>decide (kv.1=k))=V0 then kvs.map (λ kv=>if kv.1=k then (kv.1,v) else kv) else kvs++[(k,v)]
theorem si {p:κ×V}{r:List (κ×V)}{k:κ}(e:p.1=k):mK (p::r) k=kb p.2:=by simp[mK,dJ,e]
theorem wq {p:κ×V}{r:List (κ×V)}{k:κ}(e:¬ p.1=k):mK (p::r) k=mK r k:=by simp[mK,dJ,e]
theorem wu (k:κ):∀ kvs:List (κ×V),(kvs.any λ kv=>decide (kv.1=k))=(mK kvs k).isSome
 | []=>rfl
 | p::r=>by
  rw[List.any_cons];by_cases e:p.1=k
  ·simp only[si e,decide_eq_true e,Bool.true_or,Option.isSome_some]
  ·rw[wq e,decide_eq_false e,Bool.false_or];exact wu k r
theorem pP (kvs:List (κ×V))(k:κ)(v:V):(putK kvs k v).length<=kvs.length+1:=by
 unfold putK;split
 ·rw[ak];lia
 ·rw[aQ,aW,cP];lia
theorem Ih {kvs:List (κ×V)}{k:κ}(v:V)(h:mK kvs k=My):putK kvs k v=kvs++[(k,v)]:=by unfold putK;rw[wu,h];exact ag (by decide)
theorem yj.nZ {o:g6 V}{u:g6 g_}(r:yj o u):o.isSome=u.isSome:=by
 cases o with
 | none=>cases u with
  | none=>rfl
  | some _=>exact(show False from r).elim
 | some _=>cases u with
  | none=>exact(show False from r).elim
  | some _=>rfl
theorem KV.val {kvs:List (κ×V)}{vs:List (κ×g_)}(r:KV kvs vs)(k:κ):yj (mK kvs k) (valueAt vs k):=by
 unfold KV at r;induction r with
 | nil=>exact True.intro
 | @cons p q ps qs h t ih =>
  obtain⟨h1,h2⟩:=h;by_cases e:p.1=k
  ·have e':q.1=k:=h1.symm.trans e
   have b:valueAt (q::qs) k=kb q.2:=by simp[valueAt,dJ,e']
   rw[si e,b];exact h2
  ·have e':¬ q.1=k:=λ z=>e (h1.trans z)
   have b:valueAt (q::qs) k=valueAt qs k:=by simp[valueAt,dJ,e']
   rw[wq e,b];exact ih
theorem KV.any {kvs:List (κ×V)}{vs:List (κ×g_)}(r:KV kvs vs)(k:κ):(kvs.any λ kv=>decide (kv.1=k))=vs.any λ kv=>decide (kv.1=k):=by
 unfold KV at r;induction r with
 | nil=>rfl
 | cons h t ih=>rw[List.any_cons,List.any_cons,ih,h.1]
theorem KV.Pc {kvs:List (κ×V)}{vs:List (κ×g_)}(r:KV kvs vs)(k:κ){y:V}{u:g_}(ry:RelV y u) :
  KV (kvs.map λ kv=>if kv.1=k then (kv.1,y) else kv) (vs.map λ kv=>if kv.1=k then (kv.1,u) else kv):=by
 unfold KV at r ⊢;induction r with
 | nil=>exact .nil
 | @cons p q ps qs h t ih =>
  rw[au,au];refine .cons ?_ ih;obtain⟨h1,h2⟩:=h;by_cases e:p.1=k
  ·rw[ae e,ae (h1.symm.trans e)];exact⟨h1,ry⟩
  ·rw[ag e,ag (λ z=>e (h1.trans z))];exact⟨h1,h2⟩
theorem KV.put {kvs:List (κ×V)}{vs:List (κ×g_)}(r:KV kvs vs)(k:κ){y:V}{u:g_}(ry:RelV y u):KV (putK kvs k y) (stored vs k u):=by
 unfold putK stored;rw[r.any k];by_cases e:(vs.any λ kv=>decide (kv.1=k))=V0
 ·rw[ae e,ae e];exact r.Pc k ry
 ·rw[ag e,ag e];exact gq r ⟨rfl,ry⟩
theorem KV.length {kvs:List (κ×V)}{vs:List (κ×g_)}(r:KV kvs vs):kvs.length=vs.length:=fI r
end
theorem yV {P:Program}{w:World}{k:Key}{u:g_}(r:RelV (kV k) u):(jY P w).is k u=V0:=by
 cases k with
 | inl i=>obtain⟨t,e⟩:=(show ∃ t,u=Value.int i t from r);subst e;exact A9 P w i t
 | inr x=>obtain⟨t,e⟩:=(show ∃ t,u=Value.str x t from r);subst e;exact A_ P w x t
theorem yW {P:Program}{w:World}:∀ {ks:List Key} {us:List g_},Vals (ks.map kV) us->ItemsAre (jY P w) ks us
 | [],_,r=>by rw[eE]at r;cases r;exact .nil
 | k::ks,_,r=>by
  rw[au]at r;cases r with
  | cons h t=>exact .cons (yV h) (yW t)
abbrev KT (H:Hp):List (List Key×V)->List (List Key×Addr×g_)->Prop:=Paired λ p q=>p.1=q.1/\H q.2.1=kb (.tup (p.1.map kV))/\RelV p.2 q.2.2
theorem KT.val {H:Hp}{kvs:List (List Key×V)}{xs:List (List Key×Addr×g_)}(r:KT H kvs xs)(k:List Key):yj (mK kvs k) ((atKey xs k).map (·.2)):=by
 induction r with
 | nil=>exact True.intro
 | @cons p q ps qs h t ih =>
  obtain⟨h1,_,h2⟩:=h;by_cases e:p.1=k
  ·have e':q.1=k:=h1.symm.trans e
   have b:atKey (q::qs) k=kb q.2:=by simp[atKey,dJ,e']
   rw[si e,b];exact h2
  ·have e':¬ q.1=k:=λ z=>e (h1.trans z)
   have b:atKey (q::qs) k=atKey qs k:=by simp[atKey,dJ,e']
   rw[wq e,b];exact ih
theorem KT.Pc {H:Hp}{kvs:List (List Key×V)}{xs:List (List Key×Addr×g_)}(r:KT H kvs xs)(k:List Key){y:V}{u:g_}(ry:RelV y u) :
  KT H (kvs.map λ kv=>if kv.1=k then (kv.1,y) else kv) (xs.map (putAt k u)):=by
 induction r with
 | nil=>exact .nil
 | @cons p q ps qs h t ih =>
  rw[au,au];refine .cons ?_ ih;obtain⟨h1,h2,h3⟩:=h;unfold putAt;by_cases e:p.1=k
  ·rw[ae e,ae (h1.symm.trans e)];exact⟨h1,h2,ry⟩
  ·rw[ag e,ag (λ z=>e (h1.trans z))];exact⟨h1,h2,h3⟩
theorem KT.put {H:Hp}{kvs:List (List Key×V)}{xs:List (List Key×Addr×g_)}(r:KT H kvs xs)(k:List Key){b:Addr}{y:V}{u:g_}(hb:H b=kb (.tup (k.map kV)))(ry:RelV y u) :
  KT H (putK kvs k y) (storedH xs k b u):=by
 have e:(kvs.any λ kv=>decide (kv.1=k))=(atKey xs k).isSome:=by rw[wu,(r.val k).nZ,gr]
 unfold putK storedH;rw[e];by_cases q:(atKey xs k).isSome=V0
 ·rw[ae q,ae q];exact r.Pc k ry
 ·rw[ag q,ag q];exact gq r ⟨rfl,hb,ry⟩
theorem KT.keeps {H H':Hp}{kvs:List (List Key×V)}{xs:List (List Key×Addr×g_)}(r:KT H kvs xs)(ht:∀ b ys,H b=kb (.tup ys)->H' b=kb (.tup ys)):KT H' kvs xs :=
 Paired.Lm r λ _ _ z=>⟨z.1,ht _ _ z.2.1,z.2.2⟩
section
variable {P:Program}{w:World}{H:Hp}{h:Heap}{a:Addr}
theorem NG {u:HO}(ok:HOk P w H h)(e:Rd H a u):jO P w H h a u:=e.ok ok
theorem yX {kvs:List (Key×V)}(ok:HOk P w H h)(e:Rd H a (.dK kvs)):kvs.length<=sizeLine/\(a==sysModules)=V1/\∃ vs,KV kvs vs/\h.DictOf (jY P w) a vs :=
 show jO P w H h a (.dK kvs) from NG ok e
theorem NH {kvs:List (Key×V)}(ok:HOk P w H h)(e:H a=kb (.dK kvs)):kvs.length<=sizeLine/\(a==sysModules)=V1/\∃ vs,KV kvs vs/\h.DictOf (jY P w) a vs:=yX ok (.inl e)
theorem wx {ks:List Key}(ok:HOk P w H h)(e:H a=kb (.tup (ks.map kV))):(tupleKind (jY P w)).is h ks a:=by obtain⟨_,its,r,o,h1,h2,n,h3⟩:=(show jO P w H h a (.tup (ks.map kV)) from ok a _ e);exact⟨o,its.toArray,n,h1,h2,h3,by simpa using yW r⟩
theorem Bn {kvs:List (List Key×V)}(ok:HOk P w H h)(e:Rd H a (.dT kvs)):kvs.length<=sizeLine/\(a==sysModules)=V1 /\
  ∃ xs,KT H kvs xs/\h.DictOfH (tupleKind (jY P w)) a xs:=by
 obtain⟨z,y,xs,r,o,es,ep,h1,h2,h3,h4,h5⟩:=(show jO P w H h a (.dT kvs) from NG ok e);refine⟨z,y,xs,r,o,es,ep,h1,h2,h3,h4,λ x hx=>?_,h5⟩;have all:∀ {l:List (List Key×V)} {m:List (List Key×Addr×g_)},KT H l m->∀ x∈m,(tupleKind (jY P w)).is h x.1 x.2.1:=by
  intro l m q;induction q with
  | nil=>intro x hx;exact nomatch hx
  | @cons p q ps qs hq t ih =>
   intro x hx;rcases aG.mp hx with e | hx
   ·subst e;exact wx ok (by rw[<-hq.1];exact hq.2.1)
   ·exact ih x hx
 exact all r x hx
theorem RH {kvs:List (List Key×V)}(ok:HOk P w H h)(e:H a=kb (.dT kvs)):kvs.length<=sizeLine/\(a==sysModules)=V1 /\
  ∃ xs,KT H kvs xs/\h.DictOfH (tupleKind (jY P w)) a xs:=Bn ok (.inl e)
end
def sj (H:Hp)(a:Addr)(y:V)(r:g6 V):Prop :=
 (∃ kvs k,Rd H a (.dK kvs)/\y=kV k/\r=mK kvs k)\/∃ kvs k b,Rd H a (.dT kvs)/\y=.ref b/\H b=kb (.tup (k.map kV))/\r=mK kvs k
def Ii (H:Hp)(a:Addr)(y v:V)(H':Hp):Prop :=
 (∃ kvs k,H a=kb (.dK kvs)/\y=kV k/\kvs.length<sizeLine/\H'=upd H a (.dK (putK kvs k v))) \/
 ∃ kvs k b,H a=kb (.dT kvs)/\y=.ref b/\H b=kb (.tup (k.map kV))/\kvs.length<sizeLine/\H'=upd H a (.dT (putK kvs k v))
theorem sj.k {H:Hp}{a:Addr}{kvs:List (Key×V)}{k:Key}(e:H a=kb (.dK kvs)):sj H a (kV k) (mK kvs k):=.inl ⟨kvs,k,.inl e,rfl,rfl⟩
theorem Ii.k {H:Hp}{a:Addr}{kvs:List (Key×V)}{k:Key}{v:V}(e:H a=kb (.dK kvs))(hl:kvs.length<sizeLine):Ii H a (kV k) v (upd H a (.dK (putK kvs k v))):=.inl ⟨kvs,k,e,rfl,hl,rfl⟩
section
variable {X:Cx}{pins:hJ}{σ:St}{H:Hp}{s:hE}{a:Addr}{y v:V}{u r:g_}{o:g6 V}{A:Around}{E:g0}
theorem Inv.big (I:Inv X pins σ H s):sysModules<s.heap.objs.size:=by have h:mainGlobals<s.heap.objs.size:=(I.mod.glob.keeps I.bk).lt;exact Nat.lt_trans (by decide) h
theorem Gq {Q:g0}(hu:A.units+1<cLine)(I:Inv X pins σ H s)(g:sj H a y (kb v))(ry:RelV y u)(h:∀ w' s',Inv X pins σ H s'->RelV v w'->Q w' s') :
  wpAny (model X.prog X.w) A (getItem (.ref a) u) Q E s:=by
 rcases g with⟨kvs,k,e,ey,l⟩ | ⟨kvs,k,b,e,ey,eb,l⟩
 ·subst ey;obtain⟨z,hd,vs,rel,dd⟩:=yX I.hok e;obtain⟨w',hw,rw'⟩:=yj.some_of (v:=v) (o:=valueAt vs k) (by rw[l];exact rel.val k);exact wpAny_getItem_of (yV ry) dd.mapOf hw (h w' _ (I.tok _) rw')
 ·subst ey;cases (show u=Value.ref b from ry);obtain⟨z,hd,xs,rel,dd⟩:=Bn I.hok e;obtain⟨w',hw,rw'⟩:=yj.some_of (v:=v) (o:=(atKey xs k).map (·.2)) (by rw[l];exact rel.val k);obtain⟨p,hp,hp2⟩:=Option.map_eq_some_iff.mp hw;refine wpAny_getItem_heap (tupleKind_room_in1 hu) (wx I.hok eb) dd hp ?_;rw[hp2];exact h w' _ (I.tok _) rw'
theorem Ur {Q:g0}(hu:A.units+1<cLine)(I:Inv X pins σ H s)(g:sj H a y o)(ry:RelV y u)(h:∀ s',Inv X pins σ H s'->Q (.bool o.isSome) s') :
  wpAny (model X.prog X.w) A (compareOp .In u (.ref a)) Q E s:=by
 rcases g with⟨kvs,k,e,ey,l⟩ | ⟨kvs,k,b,e,ey,eb,l⟩
 ·subst ey;obtain⟨z,hd,vs,rel,dd⟩:=yX I.hok e;refine wpAny_in_of (yV ry) hd dd.mapOf ?_;rw[<-(rel.val k).nZ,<-l];exact h _ (I.tok _)
 ·subst ey;cases (show u=Value.ref b from ry);obtain⟨z,hd,xs,rel,dd⟩:=Bn I.hok e;refine wpAny_in_heap (tupleKind_room_in1 hu) (wx I.hok eb) hd dd ?_;have q:=(rel.val k).nZ;rw[gr]at q;rw[<-q,<-l];exact h _ (I.tok _)
theorem LC {Q:g0}(hu:A.units+1<cLine)(I:Inv X pins σ H s)(g:sj H a y o)(ry:RelV y u)(h:∀ s',Inv X pins σ H s'->Q (.bool (!o.isSome)) s') :
  wpAny (model X.prog X.w) A (compareOp .NotIn u (.ref a)) Q E s:=by
 rcases g with⟨kvs,k,e,ey,l⟩ | ⟨kvs,k,b,e,ey,eb,l⟩
 ·subst ey;obtain⟨z,hd,vs,rel,dd⟩:=yX I.hok e;refine wpAny_notIn_of (yV ry) hd dd.mapOf ?_;rw[<-(rel.val k).nZ,<-l];exact h _ (I.tok _)
 ·subst ey;cases (show u=Value.ref b from ry);obtain⟨z,hd,xs,rel,dd⟩:=Bn I.hok e;refine wpAny_notIn_heap (tupleKind_room_in1 hu) (wx I.hok eb) hd dd ?_;have q:=(rel.val k).nZ;rw[gr]at q;rw[<-q,<-l];exact h _ (I.tok _)
theorem zX {h':Heap}{t':Nat}{ob:HO}(I:Inv X pins σ H s)(mu:Mut (H a))(hs:Heap.SameBut a s.heap h')(he:∃ q,h'.get? a=kb q)(new:jO X.prog X.w (upd H a ob) h' a ob) :
  Inv X pins σ (upd H a ob) {s with heap:=h',toks:=t'} :=
 I.write (x:=a) (e:=a) mu (.inl rfl) (λ b q hb z=>(hs.2 b hb).trans z) he new
theorem Ij {P:Program}{w:World}{H':Hp}{h':Heap}{kvs:List (Key×V)}{vs:List (Key×g_)}(z:kvs.length<=sizeLine)(hd:(a==sysModules)=V1)(rel:KV kvs vs)(dd:h'.DictOf (jY P w) a vs) :
  jO P w H' h' a (.dK kvs):=⟨z,hd,vs,rel,dd⟩
theorem Gr {H':Hp}{Q:Unit->hE->Prop}(hu:A.units+1<cLine)(I:Inv X pins σ H s)(g:Ii H a y v H')(ry:RelV y u)(rv:RelV v r)(h:∀ s',Inv X pins σ H' s'->Q () s') :
  wpAny (model X.prog X.w) A (setItem (.ref a) u r) Q E s:=by
 rcases g with⟨kvs,k,e,ey,l,eH⟩ | ⟨kvs,k,b,e,ey,eb,l,eH⟩
 ·subst ey eH
  obtain⟨z,hd,vs,rel,dd⟩:=NH I.hok e;have hz:vs.length<=sizeLine:=by rw[<-rel.length];exact z
  have hl:(putK kvs k v).length<=sizeLine:=by have:=pP kvs k v;lia
  refine wpAny_setItem_pairs (hsz:=hz) (yV ry) dd λ h' dd' hs=>h _ ?_;have he:∃ q,h'.get? a=kb q:=let ⟨q,_,_,hq,_⟩:=dd';⟨q,hq⟩;exact zX I (by rw[e];exact True.intro) hs he (Ij hl hd (rel.put k rv) dd')
 ·subst ey eH
  cases (show u=Value.ref b from ry);obtain⟨z,hd,xs,rel,dd⟩:=RH I.hok e;have hz:xs.length<=sizeLine:=by rw[<-fI rel];exact z
  have hl:(putK kvs k v).length<=sizeLine:=by have:=pP kvs k v;lia
  refine wpAny_setItem_heap (hsz:=hz) (tupleKind_room_in1 hu) (wx I.hok eb) dd λ h' dd' hs=>h _ ?_;obtain⟨q,es,ep,hq,h2,h3,h4,_,h5⟩:=dd';refine zX I (by rw[e];exact True.intro) hs ⟨q,hq⟩ ⟨hl,hd,_,(rel.put k eb rv).keeps λ c ys ec=>?_,q,es,ep,hq,h2,h3,h4,h5⟩;rw[iI (Rr ec e (λ z=>nomatch z))];exact ec
end
section
variable {X:Cx}{pins:hJ}{σ:St}{H:Hp}{s:hE}{a:Addr}{kvs:List (Key×V)}{k:Key}{u:g_}{A:Around}{E:g0}
theorem RI {Q:g0}(I:Inv X pins σ H s)(e:Rd H a (.dK kvs))(h:∀ t s',Inv X pins σ H s'->Q (.int kvs.length t) s'):wpAny (model X.prog X.w) A (call (.builtin "len") [.ref a]) Q E s:=by obtain⟨z,hd,vs,rel,dd⟩:=yX I.hok e;refine call_len_dict hd dd (by rw[<-rel.length];rw[sizeLine_eq]at z;lia) ?_;rw[<-rel.length];exact h _ _ (I.tok _)
end
def Pd (i:Expr):Prop:=∀ ov iv,subscripted i V1 ov iv=operate [ov,iv] (getItem ov iv)
theorem LD {prog:Program}{w:World}{A:Around}{E:g0}{s:hE}{env:Env}{value slice:Expr}{pos:Pos}{T id:String}{Q:g0}
  (hl:typeLookup (.type T) "__getitem__"=pure (kb (.builtin id))) (hs:Pd slice)
  (h:wpAny (model prog w) A (eval value env) (λ o s₁=>wpAny (model prog w) A (eval slice env) (λ i s₂=>s₂.TypeIs o T/\wpAny (model prog w) A (getItem o i) Q E s₂) E s₁) E s) :
  wpAny (model prog w) A (eval (.Subscript value slice pos) env) Q E s:=by
 refine Subscript_ (cv h (λ o s₁ h₁=>cv h₁ (λ i s₂ h₂=>?_) λ _ _ x=>x) λ _ _ x=>x);obtain⟨hT,h₂⟩:=h₂;unfold subscriptTail;refine aa ?_;rw[getitemInPython_of_ne hT.not_modules];refine aa (wpAny_specialOf hT hl ?_);have fin:wpAny (model prog w) A (subscripted slice V1 o i) (λ r s₃=>wpAny (model prog w) A (letTemporaryGo value o r>>=λ _=>pure r) Q E s₃) E s₂:=by rw[hs o i];exact wpAny_operating (cv h₂ (λ r s₃ h₃=>aa (wpAny_letTemporaryGo (ah h₃))) λ _ _ x=>x)
 first
  | exact ah (aa fin)
  | exact aa (ah (aa fin))
  | exact aa fin
theorem Bo {X:Cx}{pins:hJ}{σ:St}{H:Hp}{s:hE}{a:Addr}{y:V}{o:g6 V}(I:Inv X pins σ H s)(g:sj H a y o):s.TypeIs (.ref a) "dict":=by
 rcases g with⟨kvs,k,e,_,_⟩ | ⟨kvs,k,b,e,_,_,_⟩
 ·obtain⟨_,_,vs,_,dd⟩:=yX I.hok e;exact dd.typeIs
 ·obtain⟨_,_,xs,_,dd⟩:=Bn I.hok e;exact dd.typeIs
def NI (td ty:TE):TE:=λ σ H Q=>td σ H λ x H1=>ty σ H1 λ y H2=>∃ a v,x=.ref a/\sj H2 a y (kb v)/\Q v H2
def RJ (ty td:TE):TE:=λ σ H Q=>ty σ H λ y H1=>td σ H1 λ x H2=>∃ a o,x=.ref a/\sj H2 a y o/\Q (.bl o.isSome) H2
def E4 (ty td:TE):TE:=λ σ H Q=>ty σ H λ y H1=>td σ H1 λ x H2=>∃ a o,x=.ref a/\sj H2 a y o/\Q (.bl (!o.isSome)) H2
def NJ (td ty tv:TE):TS:=λ D σ H=>tv σ H λ v H1=>td σ H1 λ x H2=>ty σ H2 λ y H3=>∃ a H4,x=.ref a/\Ii H3 a y v H4/\D.nx σ H4
section
variable {X:Cx}{o i e value:Expr}{pos pos' tpos:Pos}{td ty tv:TE}
theorem E5 (hu:X.A.units+1<cLine)(ho:PE X o td)(hi:PE X i ty)(hs:Pd i):PE X (.Subscript o i pos) (NI td ty):=by intro pins s σ H Q I h;refine LD PySem.F.slot_dict_getitem.lookup hs (thn (ho pins s σ H _ I h) λ u s1 ⟨x,H1,I1,rx,q1⟩=>thn (hi pins s1 σ H1 _ I1 q1) λ iv s2 ⟨y,H2,I2,ry,a,v,ex,g,q2⟩=>?_);subst ex;obtain rfl:u=Value.ref a:=rx;exact⟨Bo I2 g,Gq hu I2 g ry λ w' s3 I3 rw'=>⟨v,H2,I3,rw',q2⟩⟩
theorem Pe (hu:X.A.units+1<cLine)(hi:PE X i ty)(ho:PE X o td):PC X .In i o (RJ ty td):=by intro pins s σ H Q I h;refine thn (hi pins s σ H _ I h) λ iv s1 ⟨y,H1,I1,ry,q1⟩=>thn (ho pins s1 σ H1 _ I1 q1) λ u s2 ⟨x,H2,I2,rx,a,ov,ex,g,q2⟩=>?_;subst ex;obtain rfl:u=Value.ref a:=rx;exact Ur hu I2 g ry λ s3 I3=>⟨.bl ov.isSome,H2,I3,rfl,q2⟩
theorem Gs (hu:X.A.units+1<cLine)(hi:PE X i ty)(ho:PE X o td):PC X .NotIn i o (E4 ty td):=by intro pins s σ H Q I h;refine thn (hi pins s σ H _ I h) λ iv s1 ⟨y,H1,I1,ry,q1⟩=>thn (ho pins s1 σ H1 _ I1 q1) λ u s2 ⟨x,H2,I2,rx,a,ov,ex,g,q2⟩=>?_;subst ex;obtain rfl:u=Value.ref a:=rx;exact LC hu I2 g ry λ s3 I3=>⟨.bl (!ov.isSome),H2,I3,rfl,q2⟩
theorem LF (hu:X.A.units+1<cLine)(ho:PE X o td)(hi:PE X i ty)(hv:PE X value tv)(hs:swapsWith value (kb (.Subscript o i pos')) pos.line X.env=pure V1) :
  PS X (.Assign [.Subscript o i pos'] value pos) (NJ td ty tv):=by
 intro pins s σ H D I h;refine wpAny_Assign_Subscript (thn (hv pins s σ H _ I h) λ r s1 ⟨v,H1,I1,rv,q1⟩=>thn (ho pins s1 σ H1 _ I1 q1) λ u s2 ⟨x,H2,I2,rx,q2⟩=>thn (hi pins s2 σ H2 _ I2 q2) λ iv s3 ⟨y,H3,I3,ry,a,H4,ex,g,q3⟩=>?_) hs;subst ex;obtain rfl:u=Value.ref a:=rx;exact Gr hu I3 g ry rv λ s4 I4=>⟨σ,H4,I4,q3⟩
end
theorem Ik {P:Program}{w:World}{H:Hp}(h:Heap)(hb:sysModules<h.objs.size):jO P w H (h.push {cls:=.type "dict",data:=.dict #[]}) h.objs.size (.dK []) :=
 ⟨aZ _,beq_eq_false_iff_ne.mpr (aY (aU hb)),[],.nil,Heap.DictOf.new h⟩
section
variable {X:Cx}{pos:Pos}
end
def Dp:List (TE×TE)->St->Hp->(List (V×V)->Hp->Prop)->Prop
 | [],_,H,Q=>Q [] H
 | (tk,tv)::r,σ,H,Q=>tk σ H λ x H1=>tv σ H1 λ y H2=>Dp r σ H2 λ ps H3=>Q ((x,y)::ps) H3
abbrev VV:List (V×V)->List (g_×g_)->Prop:=Paired λ p q=>RelV p.1 q.1/\RelV p.2 q.2
def PPs (X:Cx)(pos:Pos)(keys:List (g6 Expr))(values:List Expr)(trs:List (TE×TE)):Prop :=
 ∀ (pins:hJ) (s:hE) (σ:St) (H:Hp) (Q:List (V×V)->Hp->Prop),Inv X pins σ H s->Dp trs σ H Q ->
  wpAny (model X.prog X.w) X.A (evalPairs (pairTrees keys values X.env pos)) (λ vs s'=>∃ ps H',Inv X pins σ H' s'/\VV ps vs/\Q ps H') X.xe s
theorem E6 {X:Cx}{pos:Pos}:PPs X pos [] [] []:=λ pins s σ H Q I h=>pairTrees_nil_walk ⟨[],H,I,.nil,h⟩
theorem Bp {X:Cx}{pos:Pos}{k v:Expr}{ks:List (g6 Expr)}{vs:List Expr}{tk tv:TE}{trs:List (TE×TE)}(hk:PE X k tk)(hv:PE X v tv)(hr:PPs X pos ks vs trs) :
  PPs X pos (kb k::ks) (v::vs) ((tk,tv)::trs):=λ pins s σ H Q I h =>
 pairTrees_cons_walk (thn (hk pins s σ H _ I h) λ u s1 ⟨x,H1,I1,rx,q1⟩=>thn (hv pins s1 σ H1 _ I1 q1) λ w2 s2 ⟨y,H2,I2,ry,q2⟩ =>thn (hr pins s2 σ H2 _ I2 q2) λ ws s3 ⟨ps,H3,I3,rel,q3⟩=>⟨(x,y)::ps,H3,I3,.cons ⟨rx,ry⟩ rel,q3⟩)
def tY (kvs more:List (Key×V)):List (Key×V):=more.foldl (λ acc kv=>putK acc kv.1 kv.2) kvs
theorem KV.merge:∀ {more:List (Key×V)} {rs:List (Key×g_)} {kvs:List (Key×V)} {vs:List (Key×g_)},KV more rs->KV kvs vs->KV (tY kvs more) (merged vs rs):=by
 intro more rs kvs vs r;unfold KV at r;induction r generalizing kvs vs with
 | nil=>intro q;exact q
 | @cons p q ps qs h t ih =>
  intro r0;have e:KV (putK kvs p.1 p.2) (stored vs q.1 q.2):=by have:=r0.put p.1 h.2;rw[<-h.1];exact this
  exact ih e
theorem qZ:∀ (more kvs:List (Key×V)),(tY kvs more).length<=kvs.length+more.length
 | [],kvs=>by show kvs.length<=kvs.length+0;lia
 | p::r,kvs=>by have h1:=qZ r (putK kvs p.1 p.2);have h2:=pP kvs p.1 p.2;show(tY (putK kvs p.1 p.2) r).length<=_;rw[aW];lia
theorem wy {P:Program}{w:World}:∀ {kvs:List (Key×V)} {ws:List (g_×g_)},VV (kvs.map λ kv=>(kV kv.1,kv.2)) ws->∃ rs,Carries (jY P w) ws rs/\KV kvs rs
 | [],_,r=>by rw[eE]at r;cases r;exact⟨[],True.intro,.nil⟩
 | p::kvs,_,r=>by
  rw[au]at r;cases r with
  | @cons a b as bs h t =>obtain⟨rs,c,q⟩:=wy (P:=P) (w:=w) t;obtain⟨b1,b2⟩:=b;exact⟨(p.1,b2)::rs,⟨yV h.1,rfl,c⟩,.cons ⟨rfl,h.2⟩ q⟩
def NK (trs:List (TE×TE)):TE:=λ σ H Q=>∀ p,H p=My->Dp trs σ (upd H p (.dK [])) λ ps H2=>H2 p=kb (.dK [])/\∃ kvs:List (Key×V),ps=kvs.map (λ kv=>(kV kv.1,kv.2))/\kvs.length<=15/\Q (.ref p) (upd H2 p (.dK (tY [] kvs)))
theorem E7 {X:Cx}{pos:Pos}{keys:List (g6 Expr)}{values:List Expr}{trs:List (TE×TE)}(h:PPs X pos keys values trs)(hall:keys.all (·.isSome)=V0)(hl:keys.length=values.length)(h0:keys≠[])
  (h15:keys.length<=15):PE X (.Dict keys values pos) (NK trs):=by
 intro pins s σ H Q I q;have hn:=I.hok.fresh (aq s.heap.objs.size);have I1:=I.laid (a:=s.heap.objs.size) (o:=.dK []) (h':=s.heap.push {cls:=.type "dict",data:=.dict #[]}) (t':=s.toks) (λ _ _ q=>ai _ q) (aq _) (Ik s.heap I.big);refine wpAny_Dict_walk (knd:=jY X.prog X.w) hall hl h0 h15 (thn (h pins _ σ _ _ I1 (q _ hn)) λ ws s2 ⟨ps,H2,I2,rel,e,kvs,ep,lk,q2⟩=>?_);subst ep;obtain⟨rs,c,rk⟩:=wy (P:=X.prog) (w:=X.w) rel;obtain⟨z,hd,vs0,r0,dd⟩:=NH I2.hok e;cases r0;refine⟨rs,c,dd,λ h' dd' hs=>⟨.ref s.heap.objs.size,_,?_,rfl,q2⟩⟩;have hz:(tY [] kvs).length<=sizeLine:=by have h1:=qZ kvs [];rw[cP]at h1;rw[sizeLine_eq];lia
 have he:∃ q,h'.get? s.heap.objs.size=kb q:=let ⟨q,_,_,hq,_⟩:=dd';⟨q,hq⟩;exact zX I2 (by rw[e];exact True.intro) hs he (Ij hz hd (rk.merge .nil) dd')
structure M1 (X:Cx)(o:Expr)(m:Str)(apos:Pos)(e:Expr)(cpos:Pos):Prop where
 base:attributeBase o m X.env (eval o X.env)=eval o X.env
 few:((backTo cpos (starEach [e] X.env)).all (λ x=>!x.1)&&(backToKw cpos (keywordEach [] X.env)).all (λ x=>x.1.isSome)
  && decide (([e]:List Expr).length+([]:List Keyword).length+(if ([]:List Keyword).isEmpty then 0 else 1)<30))=V0
 line:(apos.endLine==cpos.line)=V0
 trees:backTo cpos (starEach [e] X.env)=[(V1,eval e X.env)]
structure M2 (X:Cx)(o:Expr)(m:Str)(apos:Pos)(e f:Expr)(cpos:Pos):Prop where
 base:attributeBase o m X.env (eval o X.env)=eval o X.env
 few:((backTo cpos (starEach [e,f] X.env)).all (λ x=>!x.1)&&(backToKw cpos (keywordEach [] X.env)).all (λ x=>x.1.isSome)
  && decide (([e,f]:List Expr).length+([]:List Keyword).length+(if ([]:List Keyword).isEmpty then 0 else 1)<30))=V0
 line:(apos.endLine==cpos.line)=V0
 trees:backTo cpos (starEach [e,f] X.env)=[(V1,eval e X.env),(V1,eval f X.env)]
section
variable {X:Cx}{pins:hJ}{σ:St}{H:Hp}{s:hE}{a:Addr}{y d:V}{u r:g_}{o:g6 V}{A:Around}{E:g0}
end
section
variable {X:Cx}{o e f:Expr}{apos cpos:Pos}{td ty tx:TE}
end
section
variable {X:Cx}{pins:hJ}{σ:St}{H:Hp}{s:hE}{a:Addr}{kvs:List (Key×V)}{A:Around}{E:g0}
end
section
variable {X:Cx}{pins:hJ}{σ:St}{H:Hp}{s:hE}{a:Addr}{y:V}{u:g_}{A:Around}{E:g0}
end
end L2
namespace Att
open PySem PySem.W PySem.Calls PyProof.Rows
theorem vz {P:Params}{h:Heap}:∀ (ns:List Int) (vs:List g_),WellAll P h vs (ns.map WData.int)->IntsAre vs ns:=by
 intro ns;induction ns with
 | nil =>intro vs w;rw[eE]at w;cases w;exact .nil
 | cons n ns ih =>
  intro vs w;rw[au]at w;cases w with
  | cons a b =>cases a;exact .cons _ _ (ih _ b)
theorem yY {l:OpenLaw}{n:Nat}(hn:l.most=kb n){P:Params}{h:Heap}{args:List WData}{vals:List g_}
  (hpre:l.row.toRowW.claim.pre args=V0) (hwl:WellAll P h vals args) :
  ∃ a vs ns,vals=[Value.ref a]/\args=[WData.list (ns.map WData.int)]/\h.get? a=kb {cls:=.type "list",data:=.seq vs.toArray}/\IntsAre vs ns/\ns.length<=n:=by
 have hsh:WShape.hasAll [] args [.list .int]=V0:=(pre_splitW hpre).1;have hc:l.pre.holds [] {args:=args}=V0:=(pre_splitW hpre).2;obtain⟨d,r,rfl,h1,h2⟩:=hasAllW_cons hsh;obtain rfl:=hasAllW_nil h2;obtain⟨xs,rfl,h3⟩:=hasW_list h1;obtain⟨ns,rfl⟩:=items_int h3;have hlen:ns.length<=n:=by
  unfold OpenLaw.pre at hc;have h4:(WTm.not (.lt (.lit (.int (n:Int))) (.len (.arg 0)))).holds [] {args:=[.list (ns.map .int)]}=V0:=by have h4:=(holds_andW hc).1;rw[hn]at h4;exact h4
  have h5:=condW_of h4 (w_not (w_lt w_lit (w_len_list (w_arg rfl))));rw[ak]at h5;refine fv λ q=>?_;have q':(n:Int)<((ns.length:Nat):Int):=by lia
  first
   | (rw[decide_eq_true q']at h5;exact absurd h5 (by decide))
   | (simp at h5;lia)
 cases hwl with
 | cons w1 w2 =>
  cases w2;cases w1 with
  | list ho hall=>exact⟨_,_,ns,rfl,rfl,ho,vz ns _ hall,hlen⟩
theorem yZ (l:OpenLaw)(args:List WData):l.row.toRowW.claim.post args (.bool V0) args=V0 :=
 postW_of (r:=l.row.toRowW) (X:=(V0==V0))
  (show WShape.has [] (.bool V0) .bool=V0 by first | rfl | decide | simp[WShape.has,WShape.arms,WShape.armsAll])
  (show(WTm.eq .res (.lit (.bool V0))).value [] {args:=args,res:=kb (.bool V0),after:=args}=kb (.bool (V0==V0)) from w_eq_bool (w_res rfl) w_lit) rfl
theorem attach {l:OpenLaw}{n:Nat}{q:Program}{loose:List Str}{XP:(Str->g6 g_)->Heap->Prop}{YP:World->Heap->Prop}{d:DefRec}{x:Str}
  (hn:l.most=kb n) (hdf:d.params.defaults=[])
  (hbind:∀ pm cd doc v:g_,bindArgs (docDef d.name d.params d.body d.scope pm cd doc) ⟨[v],[]⟩=pure [(x,v)])
  (hx:d.scope.names.lookup x=kb .local\/d.scope.names.lookup x=kb .cell)
  (hk:d.scope.kind=.function) (hco:d.scope.isCoroutine=V1) (hgen:d.scope.isGenerator=V1)
  (body:∀ (w:World) (s₀ s₁ s:hE) (mg mb:gZ) (fa:Addr) (o:Obj) (pm cd doc:g_) (a:Addr) (vs:List g_) (ns:List Int),
   Ground q loose [] XP w s₀ mg mb s₁.heap->YP w s₁.heap ->
   s₁.heap.get? fa=kb o->o.data=.func (docDef d.name d.params d.body d.scope pm cd doc)->s₁.heap.CodeRec cd d.name->mg d.name=kb (.ref fa) ->
   s₁.heap.get? a=kb {cls:=.type "list",data:=.seq vs.toArray}->IntsAre vs ns->ns.length<=n ->
   s.gens=#[]->s.os=s₁.os ->
   Fr s₁.heap s₁.heap.objs.size s.heap (bindL (envOfC d.name d.scope s₁.heap.objs.size fa cd).kindOf [(x,.ref a)] λ _=>My) ->
   Cl s₁.heap.objs.size (cellsFrom (s₁.heap.objs.size+1) d.scope.names []) s.heap (bindC (envOfC d.name d.scope s₁.heap.objs.size fa cd).kindOf [(x,.ref a)] λ _=>My) ->
   wpAny (model l.prog w) (callerA.deeper (envOfC d.name d.scope s₁.heap.objs.size fa cd)) (execs d.body (envOfC d.name d.scope s₁.heap.objs.size fa cd))
    (λ f s'=>f=.ret (.bool V0)/\OldK s₁.heap s'.heap/\s'.os=s₁.os/\AllBare s'.gens) (λ _ _=>False) s) :
  WalkO q loose XP YP l.row.toRowW d [] (λ f vs=>PySem.call f vs):=by
 intro w s₀ s₁ mg mb G Y fa o pm cd doc dV kV ho hd hcd hD hmg hg args vals as hpre hlay hrd hwl hlo;obtain rfl:dV=.none:=Dflts.none hD hdf;obtain rfl:kV=.none:=Dflts.noKw hD;obtain⟨a,vs,ns,rfl,rfl,hobj,hints,hlen⟩:=yY hn hpre hwl;refine enter_call ?_;refine call_cells_ret (o:=o) (by rw[depth_caller];decide) ho (fd_plain hd) G.T.nolimit hcd (hbind pm cd doc (.ref a)) (λ y hy=>?_) (λ h₁ tk F X=>?_) hco hgen hk
 ·obtain rfl:y=(x,Value.ref a):=aN.mp hy
  rcases hx with e | e
  ·exact .inl e
  ·exact .inr ⟨e,cellsFrom_some _ _ _ (.inl e)⟩
 ·refine cv (body w s₀ s₁ {s₁ with heap:=h₁,toks:=tk} mg mb fa o pm cd doc a vs ns G Y ho (fd_plain hd) hcd hmg hobj hints hlen hg rfl F X) (λ f s' hq=>?_) (λ _ _ hq=>hq);obtain⟨rfl,h2,h3,h4⟩:=hq;exact⟨.inl ⟨.bool V0,.bool V0,[],rfl,λ _=>rfl,.bool V0,yZ l _,λ _=>⟨List.Pairwise.nil,λ _ hm=>(nomatch hm)⟩⟩,h2,h3,h4⟩
theorem Bq {l:OpenLaw}{n:Nat}{q:Program}{loose:List Str}{XP:(Str->g6 g_)->Heap->Prop}{YP:World->Heap->Prop}{d:DefRec}
  (hn:l.most=kb n) (hdf:d.params.defaults=[])
  (call:∀ (w:World) (s₀ s₁:hE) (mg mb:gZ) (fa:Addr) (o:Obj) (pm cd doc:g_) (a:Addr) (vs:List g_) (ns:List Int),
   Ground q loose [] XP w s₀ mg mb s₁.heap->YP w s₁.heap ->
   s₁.heap.get? fa=kb o->o.data=.func (docDef d.name d.params d.body d.scope pm cd doc)->s₁.heap.CodeRec cd d.name->mg d.name=kb (.ref fa) ->
   s₁.heap.get? a=kb {cls:=.type "list",data:=.seq vs.toArray}->IntsAre vs ns->ns.length<=n->s₁.gens=#[] ->
   codeAny (model l.prog w) callerA (.call (.ref fa) ⟨[.ref a],[]⟩) (λ r s'=>r=.ok (.ret (.bool V0))/\OldK s₁.heap s'.heap/\s'.os=s₁.os/\AllBare s'.gens) s₁) :
  WalkO q loose XP YP l.row.toRowW d [] (λ f vs=>PySem.call f vs):=by
 intro w s₀ s₁ mg mb G Y fa o pm cd doc dV kV ho hd hcd hD hmg hg args vals as hpre hlay hrd hwl hlo;obtain rfl:dV=.none:=Dflts.none hD hdf;obtain rfl:kV=.none:=Dflts.noKw hD;obtain⟨a,vs,ns,rfl,rfl,hobj,hints,hlen⟩:=yY hn hpre hwl;refine enter_call (codeAny_mono (call w s₀ s₁ mg mb fa o pm cd doc a vs ns G Y ho (fd_plain hd) hcd hmg hobj hints hlen hg) λ r s' hq=>?_);obtain⟨rfl,h2,h3,h4⟩:=hq;exact⟨.inl ⟨.bool V0,.bool V0,[],rfl,λ _=>rfl,.bool V0,yZ l _,λ _=>⟨List.Pairwise.nil,λ _ hm=>(nomatch hm)⟩⟩,h2,h3,h4⟩
section
variable {prog:Program}{w:World}{A:Around}{E:g0}{s:hE}{K:Frag}
def j4 (h:Heap):Heap:={h with objs:=#[]}
end
end Att
namespace L2
open PySem PySem.Spec PyProof.Rows
theorem y_:∀ {vs:List g_} {ns:List Int},IntsAre vs ns->Vals (ns.map V.int) vs
 | _,_,.nil=>.nil
 | _,_,.cons n t h=>.cons ⟨t,rfl⟩ (y_ h)
def Pf (H:Hp):Prop:=∀ b,H b=My\/∃ o xs,H b=kb (.frz o (.lst xs))
theorem Il {P:Program}{w:World}{K:g9}{mg mb:gZ}{CX:CXT}{k:Nat}{fa a:Addr}{fd:FuncData}{x:Str}{sp:Sp}{s₁:hE}{vs:List g_}{ns:List Int}
  (KX:K.In s₁.heap) (hns:s₁.heap.Ns mainGlobals mg) (hb:s₁.heap.Ns builtinsNs mb) (hbb:∀ x:Str,x≠"__name__"->mb x=bootBuiltins x) (hlim:s₁.heap.NoLimit) (hg:s₁.gens=#[])
  (ha:s₁.heap.get? a=kb {cls:=.type "list",data:=.seq vs.toArray}) (hi:IntsAre vs ns) (hl:ns.length<=sizeLine) (hr:kN k callerA)
  (F:∀ base:Heap,K.In base->base.Ns mainGlobals mg->oJ P w K mg base CX k fa fd [x] sp) (hbind:∀ (s:hE) (u:g_),BindsTo s fd ⟨[u],[]⟩ [(x,u)])
  (hsp:∀ H:Hp,Pf H->SqL K H a (ns.map V.int)->sp [.ref a] H (λ v _=>v=.bl V0) λ _ _ _=>False)
  (hCX:∀ H e s',CX [] H s₁ (λ _ _ _=>False) e s'->False) :
  codeAny (model P w) callerA (.call (.ref fa) ⟨[.ref a],[]⟩) (λ r s'=>r=.ok (.ret (.bool V0))/\OldK s₁.heap s'.heap/\s'.os=s₁.os/\AllBare s'.gens) s₁:=by
 have rv:=y_ hi;have lenV:=hi.length;have core:∀ H:Hp,Pf H->SqL K H a (ns.map V.int)->HOk P w H s₁.heap->(∀ b,H b≠My->b=a)->(H a≠My->K.lookup a=My) ->
   codeAny (model P w) callerA (.call (.ref fa) ⟨[.ref a],[]⟩) (λ r s'=>r=.ok (.ret (.bool V0))/\OldK s₁.heap s'.heap/\s'.os=s₁.os/\AllBare s'.gens) s₁:=by
  intro H hO hS hok hA hK;have base_of:∀ {b:Addr} {o:Obj},s₁.heap.get? b=kb o->H b=My->(zM s₁.heap H).get? b=kb o:=λ e n=>HG e n;have noA:∀ {b:Addr} {o:Obj} {es:Array DictEntry} {ep:Nat},s₁.heap.get? b=kb o->o.data=.dict es ep->H b=My:=λ{b o es ep} e d=>by
   cases q:H b with
   | none=>rfl
   | some u =>have e':b=a:=hA b (by rw[q];simp);subst e';rw[ha]at e;cases e;have d':Data.seq vs.toArray _=Data.dict es ep:=d;cases d'
  have nsK:∀ {b:Addr} {m:gZ},s₁.heap.Ns b m->(zM s₁.heap H).Ns b m:=λ{b m} ⟨o,es,ep,e,d,r⟩=>⟨o,es,ep,base_of e (noA e d),d,r⟩;have hKb:K.In (zM s₁.heap H):=λ b o e=>base_of (KX b o e) (by
   cases q:H b with
   | none=>rfl
   | some u =>have e':b=a:=hA b (by rw[q];simp);subst e';rw[hK (by rw[q];simp)]at e;cases e)
  have hM:Mod K mg (zM s₁.heap H):=⟨hKb,nsK hns,⟨mb,nsK hb,hbb⟩,let ⟨mc,h1,h2⟩:=hlim;⟨mc,nsK h1,h2⟩⟩;have e0:Gn P w K mg (zM s₁.heap H) callerA [] s₁ H:=⟨rfl,hM,λ b o e=>Ln e,fg (Gi _ _),trivial,λ b hb=>absurd (show b∈([]:List Addr) from hb) (by simp),hok,.of_eq hg⟩;refine codeAny_mono ((F _ hKb (nsK hns)).run callerA [] s₁ H ⟨[.ref a],[]⟩ [.ref a] [.ref a] _ _ hr e0 (hbind s₁ (.ref a)) (.cons rfl .nil) (hsp H hO hS)) λ r s' h=>?_;cases r with
  | error e=>exact(hCX H e s' h).elim
  | ok fl =>
   cases fl with
   | next=>exact False.elim h
   | brk=>exact False.elim h
   | cont=>exact False.elim h
   | ret u =>
    obtain⟨v,H',os,bare,un,hok',r',q⟩:=h;have q':v=.bl V0:=q;subst q';obtain rfl:u=Value.bool V0:=r';refine⟨rfl,OldK.of_keep λ b o e=>?_,os,bare⟩;cases q:H b with
    | none=>exact un.keep b o e q (by intro z;exact absurd (show b∈([]:List Addr) from z) (by simp)) (by simp)
    | some u =>
     rcases hO b with z | ⟨ob,xs,z⟩
     ·rw[q]at z;cases z
     ·have z2:=un.pK b ob _ z;obtain⟨e1,_⟩:=hok b _ z;obtain⟨e2,_⟩:=hok' b _ z2;rw[e]at e1;cases e1;exact e2
 cases hk:K.lookup a with
 | some o =>have e:=KX a o hk;rw[ha]at e;cases e;refine core (λ _=>My) (λ _=>.inl rfl) (.inr ⟨_,vs.toArray,_,hk,rfl,rfl,rfl,by rw[aC,lenV];exact hl,by simpa using rv⟩) (λ b u z=>by have z':(My:g6 HO)=kb u:=z;cases z') (λ b z=>absurd rfl z) λ z=>absurd rfl z
 | none =>
  refine core (λ b=>if b=a then kb (.frz {cls:=.type "list",data:=.seq vs.toArray} (.lst (ns.map V.int))) else My) (λ b=>?_) (.inl (.inr ⟨{cls:=.type "list",data:=.seq vs.toArray},ae rfl⟩)) (λ b u z=>?_) (λ b z=>?_) λ _=>hk
  ·by_cases hb:b=a
   ·exact .inr ⟨_,_,ae hb⟩
   ·exact .inl (ag hb)
  ·by_cases hb:b=a
   ·have z':=(ae hb).symm.trans z;cases z';subst hb;exact⟨ha,by rw[ak];exact hl,vs,_,rv,ha⟩
   ·have z':=(ag hb).symm.trans z;cases z'
  ·by_cases hb:b=a
   ·exact hb
   ·exact absurd (ag hb) z
theorem E8 {l:PySem.W.OpenLaw}{n k:Nat}{q:Program}{loose:List Str}{XP:(Str->g6 g_)->Heap->Prop}{YP:World->Heap->Prop}{d:DefRec}{K:Params->g9}{CX:World->CXT}{sp:World->Sp}{x:Str}
  (hn:l.most=kb n) (hn2:n<=sizeLine) (hdf:d.params.defaults=[]) (hr:kN k callerA)
  (hY:∀ (w:World) (h:Heap),YP w h->(K w.params).In h)
  (F:∀ (w:World) (mg:gZ) (fa:Addr) (h:Heap),(K w.params).In h->h.Ns mainGlobals mg->mg d.name=kb (.ref fa) ->
   ∃ fd:FuncData,(∀ (s:hE) (u:g_),BindsTo s fd ⟨[u],[]⟩ [(x,u)]) /\
    ∀ base:Heap,(K w.params).In base->base.Ns mainGlobals mg->oJ l.prog w (K w.params) mg base (CX w) k fa fd [x] (sp w))
  (hsp:∀ (w:World) (H:Hp) (a:Addr) (ns:List Int),ns.length<=n->Pf H->SqL (K w.params) H a (ns.map V.int)->sp w [.ref a] H (λ v _=>v=.bl V0) λ _ _ _=>False)
  (hCX:∀ (w:World) (H:Hp) (s:hE) (e:g_) (s':hE),CX w [] H s (λ _ _ _=>False) e s'->False) :
  PySem.W.WalkO q loose XP YP l.row.toRowW d [] (λ f vs=>PySem.call f vs):=by
 refine Att.Bq hn hdf λ w s₀ s₁ mg mb fa o pm cd doc a vs ns G Y ho hd hcd hmg hobj hints hlen hg=>?_;have KX:=hY w _ Y;obtain⟨fd,hb,hF⟩:=F w mg fa _ KX G.T.g hmg;exact Il KX G.T.g G.T.b G.T.builtins G.T.nolimit hg hobj hints (bg hlen hn2) hr hF hb (λ H hO hS=>hsp w H a ns hlen hO hS) λ H e s'=>hCX w H s₁ e s'
def sq (s:Stmt):Arguments:=match s with
 | .FunctionDef _ a _ _ _ _ _ _ _ _=>a
 | _=>{posonlyargs:=[],args:=[],vararg:=My,kwonlyargs:=[],kw_defaults:=[],kwarg:=My,defaults:=[]}
def kC (s:Stmt):List Stmt:=match s with
 | .FunctionDef _ _ b _ _ _ _ _ _ _=>b
 | _=>[]
def il (s:Stmt):Scope:=match s with
 | .FunctionDef _ _ _ _ _ _ sc _ _ _=>sc
 | _=>{kind:=.function,names:=[],isGenerator:=V1,isCoroutine:=V1}
abbrev CX0:CXT:=λ _ _ _ _ _ _=>False
abbrev E0:XK:=λ _ _ _=>False
theorem NL {X:Cx}:Passes CX0 X E0:=λ _ _ _ _ _ _ _ h=>h.elim
structure Fun (K:g9)(x qual:Str)(st:Stmt)(f:Addr)(fd:FuncData):Prop where
 ex:∃ (oc:g_) (od:g6 Addr) (kV doc pm:g_) (an:g6 Addr) (cdv ct:g_) (osl:Array (g6 g_)),
  fd=PySem.W.fnOf x qual (sq st) (kC st) (il st) .none kV doc pm an cdv ct/\K.lookup f=kb ⟨oc,od,.func fd,osl⟩/\PySem.W.codeIn K cdv qual=V0
 kp:PySem.W.keepIn K (.ref f)=V0
section
variable {P:Program}{w:World}{K:g9}{mg:gZ}{base:Heap}
theorem Fun.ok {x qual:Str}{st:Stmt}{f:Addr}{fd:FuncData}{N ps:List Str}{k:Nat}{sp:Sp}(F:Fun K x qual st f fd)(S:iL N ps (il st))(len:∀ vs H Q E,sp vs H Q E->vs.length=ps.length)
  (hbody:∀ (cdv:g_) (A:Around) (outer:List Env) (s:hE) (H:Hp) (vs:List V) (Q:VK) (E:XK),kN k (A.deeper (envOfC qual (il st) s.heap.objs.size f cdv))->sp vs H Q E ->
   ∃ t,PSs (se CX0 P w K mg base N qual (il st) f cdv A outer s H E).nox (kC st) t/\t {nx:=λ _ H'=>Q .non H',rt:=Q} (start N vs) H):oJ P w K mg base CX0 (k+1) f fd ps sp:=by
 obtain⟨oc,od,kV,doc,pm,an,cdv,ct,osl,rfl,lk,hcd⟩:=F.ex;refine NF lk hcd S len λ A outer s H vs Q E hr hsp=>?_;obtain⟨t,h,q⟩:=hbody cdv A outer s H vs Q E hr hsp;exact⟨t,h.nox,q⟩
theorem Pg {x qual:Str}{st:Stmt}{f:Addr}{oc:g_}{od an:g6 Addr}{osl:Array (g6 g_)}{kV doc pm cdv ct:g_}(l:K.lookup f=kb ⟨oc,od,.func (PySem.W.fnOf x qual (sq st) (kC st) (il st) .none kV doc pm an cdv ct),osl⟩)
  (c:PySem.W.codeIn K cdv qual=V0) (k:PySem.W.keepIn K (.ref f)=V0):Fun K x qual st f (PySem.W.fnOf x qual (sq st) (kC st) (il st) .none kV doc pm an cdv ct):=⟨⟨oc,od,kV,doc,pm,an,cdv,ct,osl,rfl,l,c⟩,k⟩
end
theorem NM {A:Around}{k:Nat}(hr:kN k A):A.units+1<cLine:=cB (Nat.add_le_add_left (by decide:1<=64) _) hr.units
section
variable {X:Cx}
theorem pv (i:Nat){x:Str}{pos:Pos}(hN:X.N[i]?=kb x:=by rfl)(hv:Vis X.env.scope x:=by trivial)(hd:(x==("__debug__":Str))=V1:=by decide)
  (hcd:(x==("__classdict__":Str))=V1:=by decide):PE X (.Name x pos) (iX i):=HI hN hv hd hcd
end
theorem Gu {A B:Prop}(h:B):if V1=V0 then A else B:=by rw[ag ax];exact h
theorem Gv {A B:Prop}(h:A):if V0=V0 then A else B:=by rw[ae rfl];exact h
theorem Ph {c A B:Prop}[Decidable c](h1:c->A)(h2:¬ c->B):if c then A else B:=by
 by_cases h:c
 ·rw[ae h];exact h1 h
 ·rw[ag h];exact h2 h
def iA (H H':Hp):Prop:=∀ b o,H b=kb o->H' b=kb o
theorem iA.refl (H:Hp):iA H H:=λ _ _ h=>h
theorem iA.trans {H H1 H2:Hp}(a:iA H H1)(b:iA H1 H2):iA H H2:=λ c o h=>b c o (a c o h)
theorem iA.free {H H':Hp}(e:iA H H'){l:Addr}(h:H' l=Option.none):H l=Option.none:=by
 cases q:H l with
 | none=>rfl
 | some o =>rw[e l o q]at h;cases h
theorem iA.seq {K:g9}{H H':Hp}{a:Addr}{xs:List V}(e:iA H H')(h:SqL K H a xs):SqL K H' a xs:=by
 rcases h with (h | ⟨o,h⟩) | h
 ·exact .inl (.inl (e _ _ h))
 ·exact .inl (.inr ⟨o,e _ _ h⟩)
 ·exact .inr h
section
variable {κ:Type}[DecidableEq κ]
theorem zY:∀ {l:List κ} {k:κ},l.Nodup->¬ k∈l->(l++[k]).Nodup
 | [],k,_,_=>by simp
 | a::r,k,h,hk=>by
  obtain⟨h1,h2⟩:=bq.mp h;show(a::(r++[k])).Nodup;refine bq.mpr ⟨λ m=>?_,zY h2 λ m=>hk (aG.mpr (Or.inr m))⟩;rcases bh.mp m with q | q
  ·exact h1 q
  ·exact hk (aG.mpr (Or.inl (aN.mp q).symm))
end
end L2
namespace Tb
open PySem
def Ri (xs:Array Nat):Prop:=∀ (a b x y:Nat),a<b->xs[a]?=kb x->xs[b]?=kb y->x<y
def Bel (xs:Array Nat)(j r:Nat):Prop:=r<=xs.size/\(∀ k x,k<r->xs[k]?=kb x->x<j)/\(∀ k x,r<=k->xs[k]?=kb x->j<=x)
theorem wz {xs:Array Nat}{j:Nat}(R:Ri xs):∀ (fuel lo hi:Nat),hi<=lo+fuel->lo<=hi->hi<=xs.size->(∀ k x,k<lo->xs[k]?=kb x->x<j)->(∀ k x,hi<=k->xs[k]?=kb x->j<=x)->Bel xs j (SetTable.below.go xs j fuel lo hi)
 | 0,lo,hi,h1,h2,h3,h4,h5=>by
  have e:lo=hi:=by lia
  subst e;exact⟨h3,h4,h5⟩
 | fuel+1,lo,hi,h1,h2,h3,h4,h5=>by
  unfold SetTable.below.go;by_cases hlt:lo<hi
  ·rw[ae hlt]
   have hm:(lo+hi) / 2<xs.size:=by lia
   obtain⟨v,hv⟩:∃ v,xs[(lo+hi) / 2]?=kb v:=⟨xs[(lo+hi) / 2],by simp[hm]⟩;have hd:xs.getD ((lo+hi) / 2) j=v:=by rw[bC,hv];rfl
   dsimp only;rw[hd];by_cases hj:v<j
   ·rw[ae hj]
    refine wz R fuel _ _ (by lia) (by lia) h3 (λ k x hk e=>?_) h5;by_cases hk':k=(lo+hi) / 2
    ·subst hk';rw[hv]at e;cases e;exact hj
    ·exact Nat.lt_trans (R k _ x v (by lia) e hv) hj
   ·rw[ag hj]
    refine wz R fuel _ _ (by lia) (by lia) (by lia) h4 (λ k x hk e=>?_);by_cases hk':k=(lo+hi) / 2
    ·subst hk';rw[hv]at e;cases e;lia
    ·have:=R _ k v x (by lia) hv e;lia
  ·rw[ag hlt]
   have e:lo=hi:=by lia
   subst e;exact⟨h3,h4,h5⟩
theorem wG {xs:Array Nat}(R:Ri xs)(j:Nat):Bel xs j (V5 xs j) :=
 wz R xs.size 0 xs.size (by lia) (aZ _) (aq _) (λ k x hk=>absurd hk (dM _)) λ k x hk e=>by rw[d9 hk]at e;cases e
theorem below_at {xs:Array Nat}(R:Ri xs){i j:Nat}(e:xs[i]?=kb j):V5 xs j=i:=by
 obtain⟨h1,h2,h3⟩:=wG R j;rcases gu i (V5 xs j) with h | h | h
 ·exact absurd (h2 i j h e) (aX _)
 ·exact h.symm
 ·have hi:i<xs.size:=(cf.mp e).1
  have hr:V5 xs j<xs.size:=by lia
  have hv:xs[V5 xs j]?=kb xs[V5 xs j]:=by simp[hr]
  have a:=R _ _ _ _ h hv e;have b:=h3 _ _ (aq _) hv;lia
def Occ (t:SetTable)(j:Nat):Prop:=∃ i:Nat,t.place[i]?=kb j
theorem tZ {t:SetTable}(R:Ri t.place){i j:Nat}(e:t.place[i]?=kb j):t.slot j=.live i:=by unfold SetTable.slot;rw[below_at R e];dsimp only;rw[e];simp
theorem Dq {t:SetTable}(hd:t.dummies=#[]){j:Nat}(e:¬ Occ t j):t.slot j=.empty:=by
 unfold SetTable.slot;dsimp only;rw[ag,hd]
 ·have:SetTable.has #[] j=V1:=by
   unfold SetTable.has;simp
  rw[this];rfl
 ·intro h;exact e ⟨_,by simpa using h⟩
def adv (mask:Nat)(p:SetTable.Probe):SetTable.Probe :=
 if p.more>0 then {p with j:=p.j+1,more:=p.more-1} else {p with j:=(SetTable.leap mask p.i p.perturb).1,more:=V6 mask (SetTable.leap mask p.i p.perturb).1-(SetTable.leap mask p.i p.perturb).1,i:=(SetTable.leap mask p.i p.perturb).1,perturb:=(SetTable.leap mask p.i p.perturb).2}
theorem wH (t:SetTable)(p:SetTable.Probe):t.advance p=adv t.mask p:=by unfold SetTable.advance adv;split<;>rfl
def walk (mask:Nat)(p:SetTable.Probe):Nat->SetTable.Probe
 | 0=>p
 | n+1=>adv mask (walk mask p n)
theorem Im (mask:Nat)(p:SetTable.Probe):∀ n,walk mask (adv mask p) n=walk mask p (n+1)
 | 0=>rfl
 | n+1=>by show adv mask (walk mask (adv mask p) n)=adv mask (walk mask p (n+1));rw[Im mask p n]
theorem sr (mask:Nat)(p:SetTable.Probe)(a:Nat):∀ n,walk mask (walk mask p a) n=walk mask p (a+n)
 | 0=>rfl
 | n+1=>by show adv mask (walk mask (walk mask p a) n)=adv mask (walk mask p (a+n));rw[sr mask p a n]
def st (mask:Nat)(h:Int):SetTable.Probe:={j:=V7 h % (mask+1),more:=V6 mask (V7 h % (mask+1))-V7 h % (mask+1),i:=V7 h % (mask+1),perturb:=V7 h,dummy:=My}
theorem Gw (mask:Nat)(p:SetTable.Probe):(adv mask p).dummy=p.dummy:=by unfold adv;split<;>rfl
theorem wI (mask:Nat)(p:SetTable.Probe):∀ n,(walk mask p n).dummy=p.dummy
 | 0=>rfl
 | n+1=>(Gw _ _).trans (wI mask p n)
def bdy (mask i perturb:Nat):SetTable.Probe:={j:=i,more:=V6 mask i-i,i:=i,perturb:=perturb,dummy:=My}
theorem Gx (mask i:Nat):V6 mask i-i<=9:=by unfold V6;split<;>lia
theorem Ds (mask i perturb:Nat):∀ k,k<=V6 mask i-i->walk mask (bdy mask i perturb) k={j:=i+k,more:=V6 mask i-i-k,i:=i,perturb:=perturb,dummy:=My}
 | 0,_=>rfl
 | k+1,h=>by show adv mask (walk mask (bdy mask i perturb) k)=_;rw[Ds mask i perturb k (by lia)];unfold adv;rw[ae (by show V6 mask i-i-k>0;lia)];show SetTable.Probe.mk (i+k+1) (V6 mask i-i-k-1) i perturb My=SetTable.Probe.mk (i+(k+1)) (V6 mask i-i-(k+1)) i perturb My;congr 1
theorem Br (mask i perturb:Nat):walk mask (bdy mask i perturb) (V6 mask i-i+1)=bdy mask (SetTable.leap mask i perturb).1 (SetTable.leap mask i perturb).2:=by show adv mask (walk mask (bdy mask i perturb) (V6 mask i-i))=_;rw[Ds mask i perturb _ (aq _)];unfold adv;rw[ag (by show ¬ V6 mask i-i-(V6 mask i-i)>0;lia)];rfl
def lp (mask:Nat)(i perturb:Nat):Nat->Nat×Nat
 | 0=>(i,perturb)
 | n+1=>SetTable.leap mask (lp mask i perturb n).1 (lp mask i perturb n).2
theorem E9 (mask i perturb:Nat):∀ L,∃ n,n<=10*L/\walk mask (bdy mask i perturb) n=bdy mask (lp mask i perturb L).1 (lp mask i perturb L).2
 | 0=>⟨0,aq _,rfl⟩
 | L+1=>by
  obtain⟨n,hn,e⟩:=E9 mask i perturb L;refine⟨n+(V6 mask (lp mask i perturb L).1-(lp mask i perturb L).1+1),?_,?_⟩
  ·have:=Gx mask (lp mask i perturb L).1;lia
  ·rw[<-sr,e];exact Br _ _ _
theorem E_ (mask i perturb:Nat):∀ L,(lp mask i perturb L).2=perturb / 32 ^ L
 | 0=>by simp[lp]
 | L+1=>by show(lp mask i perturb L).2 / 32=_;rw[E_ mask i perturb L,Nat.div_div_eq_div_mul,Nat.pow_succ]
theorem Du (mask i perturb a:Nat):∀ L,lp mask i perturb (a+L)=lp mask (lp mask i perturb a).1 (lp mask i perturb a).2 L
 | 0=>rfl
 | L+1=>by show SetTable.leap mask (lp mask i perturb (a+L)).1 (lp mask i perturb (a+L)).2=_;rw[Du mask i perturb a L];rfl
def lc (mask:Nat):Nat->Nat
 | 0=>0
 | n+1=>(lc mask n*5+1) % (mask+1)
def Mk (mask:Nat):Prop:=mask=7\/mask=31\/mask=127
theorem LG:∀ j,j<8->∃ k,k<8/\lc 7 k=j:=by decide +kernel
theorem Io:∀ j,j<32->∃ k,k<32/\lc 31 k=j:=by decide +kernel
theorem Gy:∀ j,j<128->∃ k,k<128/\lc 127 k=j:=by decide +kernel
theorem LH:lc 7 8=0/\lc 31 32=0/\lc 127 128=0:=by decide +kernel
theorem Ip {mask:Nat}(m:Mk mask){j:Nat}(h:j<=mask):∃ k,k<=mask/\lc mask k=j:=by
 rcases m with rfl | rfl | rfl
 ·obtain⟨k,h1,h2⟩:=LG j (by lia);exact⟨k,by lia,h2⟩
 ·obtain⟨k,h1,h2⟩:=Io j (by lia);exact⟨k,by lia,h2⟩
 ·obtain⟨k,h1,h2⟩:=Gy j (by lia);exact⟨k,by lia,h2⟩
theorem Iq {mask:Nat}(m:Mk mask):∀ n,lc mask (mask+1+n)=lc mask n
 | 0=>by
  have:=LH;rcases m with rfl | rfl | rfl
  ·exact this.1
  ·exact this.2.1
  ·exact this.2.2
 | n+1=>by show(lc mask (mask+1+n)*5+1) % (mask+1)=(lc mask n*5+1) % (mask+1);rw[Iq m n]
theorem NN {mask:Nat}(a:Nat):∀ L,(lp mask (lc mask a) 0 L).1=lc mask (a+L)/\(lp mask (lc mask a) 0 L).2=0
 | 0=>⟨rfl,rfl⟩
 | L+1=>by
  obtain⟨h1,h2⟩:=NN (mask:=mask) a L;refine⟨?_,?_⟩
  ·show((lp mask (lc mask a) 0 L).1*5+1+(lp mask (lc mask a) 0 L).2 / 32) % (mask+1)=(lc mask (a+L)*5+1) % (mask+1);rw[h1,h2]
  ·show(lp mask (lc mask a) 0 L).2 / 32=0;rw[h2]
theorem LI (h:Int):V7 h<2 ^ 64:=by unfold V7;have h1:=bU h (show(2 ^ 64:Int)≠0 by decide);have h2:=cS h (show(0:Int)<2 ^ 64 by decide);lia
theorem Ir {mask:Nat}(m:Mk mask)(i:Nat)(hi:i<=mask)(h:Int){j:Nat}(hj:j<=mask):∃ L,L<SetTable.turns mask/\(lp mask i (V7 h) L).1=j:=by
 have hp:(lp mask i (V7 h) 13).2=0:=by rw[E_];have:=LI h;exact Nat.div_eq_of_lt (aB this (by decide))
 have hlt:∀ L,(lp mask i (V7 h) (L+1)).1<=mask:=λ L=>by show((lp mask i (V7 h) L).1*5+1+(lp mask i (V7 h) L).2 / 32) % (mask+1)<=mask;exact cx (fw _ (gJ _))
 obtain⟨a,ha,ea⟩:=Ip m (hlt 12);obtain⟨b,hb,eb⟩:=Ip m hj;obtain⟨L,hL,eL⟩:∃ L,L<=mask/\lc mask (a+L)=j:=by
  by_cases hab:a<=b
  ·exact⟨b-a,by lia,by rw[show a+(b-a)=b by lia];exact eb⟩
  ·refine⟨mask+1+b-a,by lia,?_⟩;rw[show a+(mask+1+b-a)=mask+1+b by lia,Iq m];exact eb
 refine⟨13+L,by unfold SetTable.turns;lia,?_⟩;rw[Du,hp,<-ea];rw[(NN a L).1];exact eL
def Reach (mask:Nat)(h:Int)(occ:Nat->Prop)(j:Nat):Prop:=∃ n,(walk mask (st mask h) n).j=j/\∀ m,m<n->occ (walk mask (st mask h) m).j
theorem Reach.mono {mask:Nat}{h:Int}{occ occ':Nat->Prop}{j:Nat}(r:Reach mask h occ j)(k:∀ x,occ x->occ' x):Reach mask h occ' j :=
 let ⟨n,e,a⟩:=r
 ⟨n,e,λ m hm=>k _ (a m hm)⟩
structure TOk (t:SetTable)(hs:List Int):Prop where
 m:Mk t.mask
 d:t.dummies=#[]
 ri:Ri t.place
 le:∀ (i j:Nat),t.place[i]?=kb j->j<=t.mask
 sz:t.place.size=hs.length
 ro:t.place.size<=t.mask
 rc:∀ (i j:Nat) (h:Int),t.place[i]?=kb j->hs[i]?=kb h->Reach t.mask h (Occ t) j
theorem bits_le (mask:Nat)(h:Int):V7 h % (mask+1)<=mask:=cx (fw _ (gJ _))
theorem wJ {α:Type}[BEq α][LawfulBEq α]:∀ (l l':List α),l.Nodup->(∀ x,x∈l->x∈l')->l.length<=l'.length
 | [],l',_,_=>aZ _
 | a::r,l',hn,hs=>by obtain⟨h1,h2⟩:=bq.mp hn;have ha:=hs a av;have:=wJ r (l'.erase a) h2 λ x hx=>(List.mem_erase_of_ne (show x≠a from λ e=>h1 (e▸hx))).mpr (hs x (ar _ hx));rw[List.length_erase_of_mem ha]at this;have hpos:0<l'.length:=List.length_pos_of_mem ha;rw[aW];lia
theorem Gz {xs:Array Nat}{mask:Nat}(R:Ri xs)(hs:xs.size<=mask):∃ j,j<=mask/\¬ ∃ i:Nat,xs[i]?=kb j:=by
 refine aJ λ hn=>?_;have all:∀ j,j<=mask->j∈xs.toList:=λ j hj=>by refine aJ λ hm=>hn ⟨j,hj,λ⟨i,e⟩=>hm ?_⟩;rw[<-bF]at e;exact bc e
 have:=wJ (V2 (mask+1)) xs.toList bw λ j hj=>all j (cx (ay.mp hj));simp at this;lia
theorem LJ {t:SetTable}{hs:List Int}(T:TOk t hs)(h:Int):∃ e,e<10*SetTable.turns t.mask/\¬ Occ t (walk t.mask (st t.mask h) e).j:=by
 obtain⟨j,hj,hn⟩:=Gz T.ri T.ro;obtain⟨L,hL,e⟩:=Ir T.m _ (bits_le t.mask h) h hj;obtain⟨n,hn',e2⟩:=E9 t.mask (V7 h % (t.mask+1)) (V7 h) L;refine⟨n,by lia,?_⟩;have e3:(walk t.mask (st t.mask h) n).j=j:=by have:walk t.mask (st t.mask h) n=_:=e2;rw[this];exact e
 rw[e3];exact hn
theorem least {P:Nat->Prop}{e:Nat}(h:P e):∃ n,n<=e/\P n/\∀ m,m<n->¬ P m:=by
 induction e using Nat.strongRecOn with
 | ind e ih =>
  by_cases q:∃ m,m<e/\P m
  ·obtain⟨m,hm,pm⟩:=q;obtain⟨n,a,b,c⟩:=ih m hm pm;exact⟨n,by lia,b,c⟩
  ·exact⟨e,aq _,h,λ m hm pm=>q ⟨m,hm,pm⟩⟩
theorem GA {t:SetTable}{hs:List Int}(T:TOk t hs)(h:Int):∃ e,e<10*SetTable.turns t.mask/\¬ Occ t (walk t.mask (st t.mask h) e).j/\∀ m,m<e->Occ t (walk t.mask (st t.mask h) m).j:=by obtain⟨e,he,hn⟩:=LJ T h;obtain⟨n,h1,h2,h3⟩:=least (P:=λ n=>¬ Occ t (walk t.mask (st t.mask h) n).j) hn;exact⟨n,by lia,h2,λ m hm=>aJ (h3 m hm)⟩
theorem Bs {t:SetTable}{hs:List Int}(T:TOk t hs){hashAt:Nat->Int}{h:Int}{e:Nat}(he:¬ Occ t (walk t.mask (st t.mask h) e).j)(hb:∀ m,m<e->Occ t (walk t.mask (st t.mask h) m).j) :
  ∀ (fuel n:Nat),n<=e->e<n+fuel->SetTable.probe.go t hashAt h fuel (walk t.mask (st t.mask h) n)=kb (.empty (walk t.mask (st t.mask h) e).j My)/\(∀ m,n<=m->m<e->∀ i:Nat,t.place[i]?=kb (walk t.mask (st t.mask h) m).j->hashAt i≠h) \/
   ∃ m i:Nat,n<=m/\m<e/\t.place[i]?=kb (walk t.mask (st t.mask h) m).j/\hashAt i=h/\(∀ m',n<=m'->m'<m->∀ i:Nat,t.place[i]?=kb (walk t.mask (st t.mask h) m').j->hashAt i≠h) /\
    SetTable.probe.go t hashAt h fuel (walk t.mask (st t.mask h) n)=kb (.candidate (walk t.mask (st t.mask h) m).j i (walk t.mask (st t.mask h) (m+1)))
 | 0,n,h1,h2=>by lia
 | fuel+1,n,h1,h2=>by
  by_cases q:n=e
  ·subst q;refine .inl ⟨?_,λ m a b=>by lia⟩;unfold SetTable.probe.go;rw[Dq T.d he];dsimp only;rw[wI];rfl
  ·obtain⟨i,hi⟩:=hb n (by lia)
   by_cases hh:hashAt i=h
   ·refine .inr ⟨n,i,aq _,by lia,hi,hh,λ m' a b=>by lia,?_⟩;unfold SetTable.probe.go;rw[tZ T.ri hi];dsimp only;rw[ae (by simpa using hh),wH];rfl
   ·have stp:SetTable.probe.go t hashAt h (fuel+1) (walk t.mask (st t.mask h) n)=SetTable.probe.go t hashAt h fuel (walk t.mask (st t.mask h) (n+1)):=by
     rw[SetTable.probe.go];rw[tZ T.ri hi];dsimp only;rw[ag (by simpa using hh),wH];rfl
    have skip:∀ m',n<=m'->¬ n+1<=m'->∀ i:Nat,t.place[i]?=kb (walk t.mask (st t.mask h) m').j->hashAt i≠h:=λ m' a b i' e'=>by
     have:m'=n:=by lia
     subst this;have:i'=i:=(below_at T.ri e').symm.trans (below_at T.ri hi);rw[this];exact hh
    rcases Bs T he hb fuel (n+1) (by lia) (by lia) with⟨a,b⟩ | ⟨m,i',a1,a2,a3,a4,a5,a6⟩
    ·refine .inl ⟨stp.trans a,λ m hm1 hm2=>?_⟩
     by_cases hm:n+1<=m
     ·exact b m hm hm2
     ·exact skip m hm1 hm
    ·refine .inr ⟨m,i',by lia,a2,a3,a4,λ m' hm1 hm2=>?_,stp.trans a6⟩
     by_cases hm:n+1<=m'
     ·exact a5 m' hm hm2
     ·exact skip m' hm1 hm
theorem Fb {α:Type}(xs:Array α)(p:Nat)(x:α)(hp:p<=xs.size)(k:Nat):(SetTable.insertAt xs p x)[k]?=if k<p then xs[k]? else if k=p then kb x else xs[k-1]?:=by
 rw[<-bF,eQ,<-bF,<-bF];have hl:(xs.toList.take p).length=p:=by rw[dY];simp;lia
 by_cases h1:k<p
 ·rw[ae h1,br (by lia),eP h1]
 ·rw[ag h1,bE (by lia),hl]
  by_cases h2:k=p
  ·rw[ae h2,h2,Nat.sub_self];rfl
  ·rw[ag h2];obtain⟨c,hc⟩:∃ c,k-p=c+1:=⟨k-p-1,by lia⟩;rw[hc,bG,List.getElem?_drop];congr 1;lia
theorem sx {α:Type}(xs:Array α)(p:Nat)(x:α):(SetTable.insertAt xs p x).size=xs.size+1:=by have:=(SetTable.insertAt_perm xs p x).length_eq;simpa using this
theorem Pj {t:SetTable}{hs:List Int}(T:TOk t hs){h:Int}{e:Nat}(he:¬ Occ t (walk t.mask (st t.mask h) e).j)(hb:∀ m,m<e->Occ t (walk t.mask (st t.mask h) m).j)(hj:(walk t.mask (st t.mask h) e).j<=t.mask)(hr:t.place.size+1<=t.mask){led plain:Bool} :
  TOk {(t.put (walk t.mask (st t.mask h) e).j).1 with plain:=plain} ((SetTable.insertAt hs.toArray (V5 t.place (walk t.mask (st t.mask h) e).j) h).toList):=by
 generalize hjj:(walk t.mask (st t.mask h) e).j=j at *;obtain⟨b1,b2,b3⟩:=wG T.ri j;generalize hp:V5 t.place j=p at *;have pl:((t.put j).1).place=SetTable.insertAt t.place p j:=by rw[<-hp];rfl
 have dm:((t.put j).1).dummies=#[]:=by show(if SetTable.has t.dummies j then _ else _)=_;rw[ag,T.d];rw[T.d];simp[SetTable.has]
 have get:=Fb t.place p j b1;have old:∀ x,Occ t x->Occ {(t.put j).1 with plain:=plain} x:=λ x ⟨i,hi⟩=>by
  by_cases hip:i<p
  ·exact⟨i,by show(t.put j).1.place[i]?=_;rw[pl,get,ae hip];exact hi⟩
  ·refine⟨i+1,?_⟩;show(t.put j).1.place[i+1]?=_;rw[pl,get,ag (by lia),ag (by lia)];exact hi
 have gh:=Fb hs.toArray p h (by rw[aC,<-T.sz];exact b1);refine⟨T.m,dm,?_,λ i x hx=>?_,?_,?_,λ i x h' hx hh=>?_⟩
 ·intro a b x y hab hx hy
  have hx:(t.put j).1.place[a]?=kb x:=hx;have hy:(t.put j).1.place[b]?=kb y:=hy;rw[pl,get]at hx hy;by_cases ha:a<p
  ·rw[ae ha]at hx
   by_cases hb':b<p
   ·rw[ae hb']at hy;exact T.ri a b x y hab hx hy
   ·rw[ag hb']at hy
    by_cases hb2:b=p
    ·rw[ae hb2]at hy;cases hy;exact b2 a x ha hx
    ·rw[ag hb2]at hy;exact T.ri a (b-1) x y (by lia) hx hy
  ·rw[ag ha]at hx
   rw[ag (by lia),ag (by lia)]at hy;by_cases ha2:a=p
   ·rw[ae ha2]at hx;cases hx
    have:=b3 (b-1) y (by lia) hy;rcases Nat.lt_or_eq_of_le this with q | q
    ·exact q
    ·exact absurd ⟨b-1,by rw[q];exact hy⟩ he
   ·rw[ag ha2]at hx;exact T.ri (a-1) (b-1) x y (by lia) hx hy
 ·have hx:(t.put j).1.place[i]?=kb x:=hx
  rw[pl,get]at hx;show x<=t.mask;by_cases h1:i<p
  ·rw[ae h1]at hx;exact T.le i x hx
  ·rw[ag h1]at hx
   by_cases h2:i=p
   ·rw[ae h2]at hx;cases hx;exact hj
   ·rw[ag h2]at hx;exact T.le _ x hx
 ·show(t.put j).1.place.size=_;rw[pl,sx,cw,sx,T.sz];simp
 ·show(t.put j).1.place.size<=t.mask;rw[pl,sx];exact hr
 ·have hx:(t.put j).1.place[i]?=kb x:=hx
  rw[bF,gh]at hh;rw[pl,get]at hx;show Reach t.mask h' _ x;by_cases h1:i<p
  ·rw[ae h1]at hx hh;exact(T.rc i x h' hx (by simpa using hh)).mono old
  ·rw[ag h1]at hx hh
   by_cases h2:i=p
   ·rw[ae h2]at hx hh;cases hx;cases hh;exact⟨e,hjj,λ m hm=>old _ (hb m hm)⟩
   ·rw[ag h2]at hx hh;exact(T.rc (i-1) x h' hx (by simpa using hh)).mono old
def vA (owner:Array (g6 Nat))(x:Nat):Prop:=∃ i:Nat,owner[x]?=kb (kb i)
theorem getD_none {owner:Array (g6 Nat)}{x:Nat}(hx:x<owner.size):(owner.getD x (kb 0)).isNone=V0↔¬ vA owner x:=by
 rw[bC];have e:owner[x]?=kb owner[x]:=by simp[hx]
 rw[e,eG];unfold vA;rw[e];cases owner[x] with
 | none=>simp
 | some i=>simp
theorem pQ {mask i:Nat}(hi:i<=mask):V6 mask i<=mask/\i<=V6 mask i:=by unfold V6;split<;>lia
theorem Fc {mask:Nat}{owner:Array (g6 Nat)}(hsz:owner.size=mask+1){h:Int}:∀ (fuel i perturb n0:Nat),walk mask (st mask h) n0=bdy mask i perturb->i<=mask->(∀ m,m<n0->vA owner (walk mask (st mask h) m).j) ->
  (∃ L,L<fuel/\¬ vA owner (lp mask i perturb L).1)->∃ j,SetTable.layClean.free mask owner fuel i perturb=kb j/\¬ vA owner j/\j<=mask/\Reach mask h (vA owner) j
 | 0,i,perturb,n0,_,_,_,⟨L,hL,_⟩=>absurd hL (dM _)
 | fuel+1,i,perturb,n0,hw,hi,hb,⟨L,hL,hl⟩=>by
  obtain⟨r1,r2⟩:=pQ hi;have at_k:∀ k,k<=V6 mask i-i->(walk mask (st mask h) (n0+k)).j=i+k:=λ k hk=>by rw[<-sr,hw,Ds mask i perturb k hk]
  unfold SetTable.layClean.free;cases q:(V2 (V6 mask i+1-i)).find? λ k=>(owner.getD (i+k) (kb 0)).isNone with
  | some k =>
   obtain⟨q1,q2,q3⟩:=List.find?_range_eq_some.mp q;have q2:=ay.mp q2;refine⟨i+k,rfl,(getD_none (by lia)).mp q1,by lia,n0+k,at_k k (by lia),λ m hm=>?_⟩;by_cases h1:m<n0
   ·exact hb m h1
   ·obtain⟨c,rfl⟩:∃ c,m=n0+c:=⟨m-n0,by lia⟩;rw[at_k c (by lia)];refine aJ λ hn=>?_;have:=q3 c (by lia);rw[(getD_none (by lia)).mpr hn]at this;simp at this
  | none =>
   have all:=List.find?_range_eq_none.mp q;have occ:∀ k,k<=V6 mask i-i->vA owner (i+k):=λ k hk=>by refine aJ λ hn=>?_;have:=all k (by lia);rw[(getD_none (by lia)).mpr hn]at this;simp at this
   dsimp only;refine Fc hsz fuel _ _ (n0+(V6 mask i-i+1)) ?_ ?_ (λ m hm=>?_) ?_
   ·rw[<-sr,hw,Br]
   ·exact cx (fw _ (gJ _))
   ·by_cases h1:m<n0
    ·exact hb m h1
    ·obtain⟨c,rfl⟩:∃ c,m=n0+c:=⟨m-n0,by lia⟩;rw[at_k c (by lia)];exact occ c (by lia)
   ·cases L with
    | zero=>exact absurd (occ 0 (aZ _)) hl
    | succ L =>refine⟨L,by lia,?_⟩;have e:=Du mask i perturb 1 L;rw[Nat.add_comm 1 L]at e;rw[e]at hl;exact hl
structure Dv (mask:Nat)(hs:List Int)(k:Nat)(owner:Array (g6 Nat)):Prop where
 sz:owner.size=mask+1
 lt:∀ (j i:Nat),owner[j]?=kb (kb i)->i<k
 one:∀ (i:Nat),i<k->∃ j:Nat,owner[j]?=kb (kb i)
 inj:∀ (j j' i:Nat),owner[j]?=kb (kb i)->owner[j']?=kb (kb i)->j=j'
 rc:∀ (j i:Nat) (h:Int),owner[j]?=kb (kb i)->hs[i]?=kb h->Reach mask h (vA owner) j
theorem Dv.room {mask:Nat}{hs:List Int}{k:Nat}{owner:Array (g6 Nat)}(O:Dv mask hs k owner)(hk:k<=mask):∃ j,j<=mask/\¬ vA owner j:=by
 refine aJ λ hn=>?_;have all:∀ j,j<=mask->vA owner j:=λ j hj=>aJ λ h=>hn ⟨j,hj,h⟩;let f:Nat->Nat:=λ j=>((owner[j]?).getD My).getD 0;have hf:∀ j,j<=mask->owner[j]?=kb (kb (f j)):=λ j hj=>by obtain⟨i,e⟩:=all j hj;show owner[j]?=kb (kb (((owner[j]?).getD My).getD 0));rw[e];rfl
 have nd:((V2 (mask+1)).map f).Nodup:=by rw[aV,bM];refine(aV.mp bw).imp_of_mem λ{a b} ha hb ne e=>ne ?_;have ha:=hf a (cx (ay.mp ha));have hb:=hf b (cx (ay.mp hb));rw[e]at ha;exact O.inj a b _ ha hb
 have:=wJ _ (V2 k) nd λ x hx=>by obtain⟨j,hj,e⟩:=aE.mp hx;rw[<-e];exact ay.mpr (O.lt j _ (hf j (cx (ay.mp hj))))
 simp at this;lia
set_option tactic.hygienic true in
theorem Bt {mask:Nat}(m:Mk mask)(hs:List Int)(hn:hs.length<=mask):∀ (rest pre:List Int) (owner:Array (g6 Nat)),hs=pre++rest->Dv mask hs pre.length owner ->
  ∃ owner',(rest.foldl (λ(acc:g6 (Array (g6 Nat)×Nat)) h=>do
   let (owner,k)<-acc;let j<-SetTable.layClean.free mask owner (SetTable.turns mask) (V7 h % (mask+1)) (V7 h)
   pure (owner.setIfInBounds j (kb k),k+1)) (kb (owner,pre.length)))=kb (owner',hs.length)/\Dv mask hs hs.length owner'
 | [],pre,owner,e,O=>by rw[bH]at e;subst e;exact⟨owner,rfl,O⟩
 | h::rest,pre,owner,e,O=>by
  have hl:pre.length<hs.length:=by rw[e];simp
  obtain⟨j0,hj0,hn0⟩:=O.room (by lia);obtain⟨L,hL,eL⟩:=Ir m _ (bits_le mask h) h hj0;obtain⟨j,hf,nj,hj,rj⟩:=Fc O.sz (h:=h) (SetTable.turns mask) _ _ 0 rfl (bits_le mask h) (λ m hm=>absurd hm (dM _)) ⟨L,hL,by rw[eL];exact hn0⟩;have hjs:j<owner.size:=by rw[O.sz];lia
  have get:∀ x:Nat,(owner.setIfInBounds j (kb pre.length))[x]?=if j=x then kb (kb pre.length) else owner[x]?:=λ x=>by
   rw[Array.getElem?_setIfInBounds];by_cases q:j=x
   ·subst q;simp[hjs]
   ·simp[q]
  have mono:∀ x,vA owner x->vA (owner.setIfInBounds j (kb pre.length)) x:=λ x ⟨i,hx⟩=>by
   by_cases q:j=x
   ·exact⟨_,by rw[get,ae q]⟩
   ·exact⟨i,by rw[get,ag q];exact hx⟩
  have O':Dv mask hs (pre++[h]).length (owner.setIfInBounds j (kb pre.length)):=by
   rw[aQ,cy];refine⟨by rw[Array.size_setIfInBounds];exact O.sz,λ x i hx=>?_,λ i hi=>?_,λ x y i hx hy=>?_,λ x i h' hx hh=>?_⟩
   ·rw[get]at hx
    split at hx
    ·cases hx;lia
    ·have:=O.lt x i hx;lia
   ·by_cases q:i=pre.length
    ·exact⟨j,by rw[get,ae rfl,q]⟩
    ·obtain⟨x,hx⟩:=O.one i (by lia);exact⟨x,by rw[get,ag (λ z=>nj ⟨i,by rw[z];exact hx⟩)];exact hx⟩
   ·rw[get]at hx hy
    split at hx
    ·cases hx
     split at hy
     ·lia
     ·exact absurd (O.lt y _ hy) (aX _)
    ·split at hy
     ·cases hy;exact absurd (O.lt x _ hx) (aX _)
     ·exact O.inj x y i hx hy
   ·rw[get]at hx
    split at hx
    ·rename_i q
     cases hx;subst q;have:h'=h:=by rw[e,bE (aq _),Nat.sub_self]at hh;simpa using hh.symm
     subst this;exact rj.mono mono
    ·exact(O.rc x i h' hx hh).mono mono
  obtain⟨owner',e',O''⟩:=Bt m hs hn rest (pre++[h]) _ (by rw[e,dP];rfl) O';refine⟨owner',?_,O''⟩;rw[cA,<-e'];congr 1;show(do let j<-SetTable.layClean.free mask owner (SetTable.turns mask) (V7 h % (mask+1)) (V7 h);pure (owner.setIfInBounds j (kb pre.length),pre.length+1))=_;rw[hf,aQ,cy];rfl
theorem Pk {mask:Nat}(m:Mk mask)(hs:List Int)(hn:hs.length<=mask):∃ owner,SetTable.layClean mask hs.toArray=kb owner/\Dv mask hs hs.length owner:=by
 have O0:Dv mask hs ([]:List Int).length (Array.replicate (mask+1) My):=by
  have no:∀ (x i:Nat),¬ (Array.replicate (mask+1) (My:g6 Nat))[x]?=kb (kb i):=λ x i h=>by rw[Array.getElem?_replicate]at h;split at h<;>cases h
  exact⟨by simp,λ x i h=>(no x i h).elim,λ i hi=>absurd hi (dM _),λ x y i h=>(no x i h).elim,λ x i h' h=>(no x i h).elim⟩
 obtain⟨owner,e,O⟩:=Bt m hs hn hs [] _ rfl O0;refine⟨owner,?_,O⟩;unfold SetTable.layClean;rw[List.foldl_toArray];have e:hs.foldl _ (kb (Array.replicate (mask+1) My,0))=kb (owner,hs.length):=e;rw[e];rfl
theorem Dw {α:Type}(hs:List α)(d:α):∀ (l:List Nat),(∀ i∈l,i<hs.length)->l.filterMap (λ i=>hs[i]?)=l.map λ i=>hs.getD i d
 | [],_=>rfl
 | i::r,h=>by
  have hi:=h i av;rw[au,<-Dw hs d r λ x hx=>h x (ar _ hx),bW];have e:hs[i]?=kb (hs.getD i d):=by rw[aA];simp[hi]
  rw[e]
theorem wK (owner:Array (g6 Nat)):∀ (l:List Nat),(l.filterMap λ j=>(owner.getD j My).map (j,·)).map (·.1)=l.filter λ j=>(owner.getD j My).isSome
 | []=>rfl
 | j::r=>by
  rw[bW,List.filter_cons];cases e:owner.getD j My with
  | none=>simpa using wK owner r
  | some i=>simpa using wK owner r
theorem LK {mask:Nat}(m:Mk mask)(hs:List Int)(hn:hs.length<=mask)(finger moves:Nat)(led plain:Bool):∃ t order,SetTable.laid mask finger moves led plain hs.toArray=kb (t,order)/\t.mask=mask/\t.led=led/\t.plain=plain /\
  List.Perm order.toList (V2 hs.length)/\TOk t (order.toList.filterMap λ i=>hs[i]?):=by
 obtain⟨owner,e,O⟩:=Pk m hs hn;let live:=(V2 (mask+1)).filterMap λ j=>(owner.getD j My).map (j,·);have mem:∀ j i,(j,i)∈live↔j<=mask/\owner[j]?=kb (kb i):=λ j i=>by
  show(j,i)∈(V2 (mask+1)).filterMap _↔_;rw[du];have gd:∀ (x y:Nat),owner.getD x My=kb y↔owner[x]?=kb (kb y):=λ x y=>by
   rw[bC];cases owner[x]? with
   | none=>simp
   | some v=>simp
  refine⟨λ⟨a,ha,q⟩=>?_,λ⟨h1,h2⟩=>⟨j,ay.mpr (by lia),by rw[(gd j i).mpr h2];rfl⟩⟩;cases w:owner.getD a My with
  | none=>rw[w]at q;cases q
  | some y =>rw[w]at q;have q:(a,y)=(j,i):=aF q;cases q;exact⟨cx (ay.mp ha),(gd _ _).mp w⟩
 have fst:live.map (·.1)=(V2 (mask+1)).filter λ j=>(owner.getD j My).isSome:=wK owner _;have pw:(live.map (·.1)).Pairwise (·<·):=by rw[fst];exact List.Pairwise.filter _ List.pairwise_lt_range
 have pw2:live.Pairwise λ a b=>a.1<b.1:=bM.mp pw;have nd:(live.map (·.2)).Nodup:=by rw[aV,bM];refine pw2.imp_of_mem λ{a b} ha hb hlt e=>?_;have h1:=((mem a.1 a.2).mp ha).2;have h2:=((mem b.1 b.2).mp hb).2;rw[e]at h1;have:=O.inj _ _ _ h1 h2;lia
 have perm:List.Perm (live.map (·.2)) (V2 hs.length):=by refine(List.perm_ext_iff_of_nodup nd bw).mpr λ i=>?_;rw[aE,ay];refine⟨λ⟨a,ha,q⟩=>q▸O.lt _ _ ((mem a.1 a.2).mp ha).2,λ hi=>?_⟩;obtain⟨j,hj⟩:=O.one i hi;have:j<owner.size:=(cf.mp hj).1;exact⟨(j,i),(mem j i).mpr ⟨by rw[O.sz]at this;lia,hj⟩,rfl⟩
 have hlen:live.length=hs.length:=by have:=perm.length_eq;simpa using this
 refine⟨{mask,place:=(live.map (·.1)).toArray,dummies:=#[],finger,led,moves,plain},(live.map (·.2)).toArray,?_,rfl,rfl,rfl,perm,⟨m,rfl,?_,?_,?_,?_,?_⟩⟩
 ·unfold SetTable.laid;rw[e];rfl
 ·intro a b x y hab hx hy
  have hx:(live.map (·.1))[a]?=kb x:=by simpa using hx
  have hy:(live.map (·.1))[b]?=kb y:=by simpa using hy
  obtain⟨l1,e1⟩:=a_.mp hx;obtain⟨l2,e2⟩:=a_.mp hy;have:=cQ.mp pw a b l1 l2 hab;rw[e1,e2]at this;exact this
 ·intro i j hx
  have hx:(live.map (·.1))[i]?=kb j:=by simpa using hx
  obtain⟨a,ha,q⟩:=aE.mp (bc hx);subst q;exact((mem a.1 a.2).mp ha).1
 ·show(live.map (·.1)).toArray.size=_;rw[Dw hs 0 _ λ i hi=>ay.mp (perm.mem_iff.mp hi)];simp
 ·show(live.map (·.1)).toArray.size<=mask;simp[hlen];lia
 ·intro i j h hx hh
  have hx:(live.map (·.1))[i]?=kb j:=by simpa using hx
  rw[Dw hs 0 _ λ i hi=>ay.mp (perm.mem_iff.mp hi)]at hh;rw[aD]at hx;rw[aD,aD]at hh;cases w:live[i]? with
  | none=>rw[w]at hx;cases hx
  | some a =>
   rw[w]at hx hh;have hx:a.1=j:=aF hx;have hh:hs.getD a.2 0=h:=aF hh;have ha:=((mem a.1 a.2).mp (bc w)).2;subst hx;refine(O.rc a.1 a.2 h ha ?_).mono λ x ⟨i',hx⟩=>?_
   ·have:=O.lt _ _ ha;rw[<-hh,aA];simp[this]
   ·have hlt:x<owner.size:=(cf.mp hx).1;have hm:(x,i')∈live:=(mem x i').mpr ⟨by rw[O.sz]at hlt;lia,hx⟩;obtain⟨k,hk,ek⟩:=bX hm;refine⟨k,?_⟩;show(live.map (·.1)).toArray[k]?=kb x;simp[hk,ek]
open PySem.Spec PyProof.Rows
section
variable {prog:Program}{w:World}{A:Around}{E:g0}{s:hE}{G:List Int->Addr->Prop}
abbrev lZ (prog:Program)(w:World)(h:Heap)(ks:List Int)(a:Addr):Prop:=IsTupleKey (intKind prog w) h ks a
theorem items_int {ks:List Int}{vs:List g_}(h:ItemsAre (intKind prog w) ks vs):∀ v∈vs,∃ i t,v=Value.int i t:=by
 induction h with
 | nil=>intro v hv;cases hv
 | cons h1 _ ih =>
  intro v hv;rcases aG.mp hv with rfl | hv
  ·obtain⟨t,e⟩:=fb h1;exact⟨_,t,e⟩
  ·exact ih v hv
theorem GB {ks:List Int}{a:Addr}{Q:Bool->hE->Prop}(hk:lZ prog w s.heap ks a)(h:Q V0 s):wpAny (model prog w) A (hashByValue 8 (.ref a)) Q E s:=by
 have hT:=hk.typeIs;obtain⟨o,items,n,ho,_,hd,hi⟩:=hk;have hin:=items_int hi;unfold hashByValue;refine aa (wpAny_specialOf hT F.slot_tuple_hash.lookup ?_);dsimp only;refine aa (cK ho hd ?_);refine aa ?_;show wpAny _ _ (forIn items _ _) _ _ s;rw[<-Array.forIn_toList];refine wpAny_forIn_list _ (λ rest r s'=>r.1=My/\s'=s/\∀ v∈rest,∃ i t,v=Value.int i t) _ ?_ ?_ _ _ ⟨rfl,rfl,hin⟩
 ·rintro v rest r s' ⟨hr,rfl,hall⟩;obtain⟨i,t,rfl⟩:=hall v av;refine aa (ah ?_);simp only[di,aS,bP];exact ah ⟨rfl,rfl,λ u hu=>hall u (ar _ hu)⟩
 ·rintro⟨r1,r2⟩ s' ⟨hr,rfl,_⟩;simp only at hr;subst hr;exact ah h
theorem za {ks:List Int}{a:Addr}{Q:Bool->hE->Prop}(hk:lZ prog w s.heap ks a)(h:Q V1 s):wpAny (model prog w) A (ofAClassStatement 8 (.ref a)) Q E s:=by
 have hT:=hk.typeIs;obtain⟨o,items,n,ho,_,hd,hi⟩:=hk;have hin:=items_int hi;unfold ofAClassStatement;refine aa (fU hT ?_);dsimp only;rw[ae (by decide)];refine aa (ah ?_);simp only[di,aS,bP];refine aa (cK ho hd ?_);dsimp only;refine aa ?_;show wpAny _ _ (forIn items _ _) _ _ s;rw[<-Array.forIn_toList];refine wpAny_forIn_list _ (λ rest r s'=>r.1=My/\s'=s/\∀ v∈rest,∃ i t,v=Value.int i t) _ ?_ ?_ _ _ ⟨rfl,rfl,hin⟩
 ·rintro v rest r s' ⟨hr,rfl,hall⟩;obtain⟨i,t,rfl⟩:=hall v av;refine aa (ah ?_);simp only[aS,bP];exact ah ⟨rfl,rfl,λ u hu=>hall u (ar _ hu)⟩
 ·rintro⟨r1,r2⟩ s' ⟨hr,rfl,_⟩;simp only at hr;subst hr;exact ah h
theorem LL {k:List Int}{b:Addr}{stored:List g_}{Q:Bool->hE->Prop}(hk:lZ prog w s.heap k b)(hs:∀ v∈stored,∃ c k',v=Value.ref c/\lZ prog w s.heap k' c)(h:Q V1 s):wpAny (model prog w) A (searchCouldBeSeen (.ref b) stored) Q E s:=by
 unfold searchCouldBeSeen;refine aa ?_;refine wpAny_forIn_list _ (λ rest r s'=>r.1=My/\s'=s/\∀ v∈rest,∃ c k',v=Value.ref c/\lZ prog w s.heap k' c) _ ?_ ?_ _ _ ⟨rfl,rfl,hs⟩
 ·rintro v rest r s' ⟨hr,rfl,hall⟩
  obtain⟨c,k',rfl,hc⟩:=hall v av;have nxt:∀ v∈rest,∃ c k',v=Value.ref c/\lZ prog w s'.heap k' c:=λ u hu=>hall u (ar _ hu);dsimp only;split
  ·exact ah ⟨rfl,rfl,nxt⟩
  ·refine aa (wpAny_eqIsQuiet_tuple hk ?_);simp only[di,aS,bP];refine aa (wpAny_eqIsQuiet_tuple hc ?_);simp only[di,aS,bP];refine aa (za hk ?_);simp only[aS,bP];refine aa (za hc ?_);simp only[aS,bP];exact ah ⟨rfl,rfl,nxt⟩
 ·rintro⟨r1,r2⟩ s' ⟨hr,rfl,_⟩;simp only at hr;subst hr;exact ah h
def t4 (G:List Int->Addr->Prop)(prog:Program)(w:World)(h:Heap)(ks:List (List Int))(es:List (Int×g_)):Prop:=Paired (λ k e=>∃ b,e=(tupleKeyHash (intKind prog w) k,Value.ref b)/\lZ prog w h k b/\G k b) ks es
theorem t4.get {h:Heap}:∀ {ks:List (List Int)} {es:List (Int×g_)},t4 G prog w h ks es->∀ (i:Nat) (e:Int×g_),es[i]?=kb e->∃ k b,ks[i]?=kb k/\e=(tupleKeyHash (intKind prog w) k,Value.ref b)/\lZ prog w h k b/\G k b
 := by
  intro ks es h;induction h with
  | nil=>intro i e q;simp at q
  | cons z r ih =>
    intro i e q;cases i with
    | zero =>rw[cC]at q;cases q;obtain⟨b,e1,hb⟩:=z;exact⟨_,b,rfl,e1,hb⟩
    | succ i =>rw[bG]at q;obtain⟨k,b,h1,h2⟩:=ih i e q;exact⟨k,b,by rw[bG];exact h1,h2⟩
theorem fits_of {t:SetTable}{hs:List Int}(T:TOk t hs){n:Nat}(hn:n=hs.length):t.fits n=V0:=by unfold SetTable.fits SetTable.fill;have h1:=T.sz;have h2:=T.ro;have h3:=T.d;simp[h3,hn,h1];lia
theorem uY {a:Addr}{o:Obj}{es:Array (Int×g_)}{ep:Nat}{t:SetTable}{ks:List (List Int)}{k:List Int}{b:Addr}{Q:SetFound->hE->Prop}(hu:A.units<cLine)
  (ho:s.heap.get? a=kb o) (hd:o.data=.set es ep t) (T:TOk t (es.toList.map (·.1))) (En:t4 G prog w s.heap ks es.toList) (hk:lZ prog w s.heap k b)
  {e:Nat} (he:¬ Occ t (walk t.mask (st t.mask (tupleKeyHash (intKind prog w) k)) e).j) (hb:∀ m,m<e->Occ t (walk t.mask (st t.mask (tupleKeyHash (intKind prog w) k)) m).j) (hf:e<10*SetTable.turns t.mask)
  (h1:k∈ks->Q (.there My) s) (h2:(∀ m,m<e->∀ i:Nat,t.place[i]?=kb (walk t.mask (st t.mask (tupleKeyHash (intKind prog w) k)) m).j->ks[i]?≠kb k)->Q (.free (walk t.mask (st t.mask (tupleKeyHash (intKind prog w) k)) e).j V1) s) :
  ∀ (fuel n:Nat) (stand:g6 SetTable.Probe),n<=e->e<n+fuel->stand.getD (t.probeStart (tupleKeyHash (intKind prog w) k))=walk t.mask (st t.mask (tupleKeyHash (intKind prog w) k)) n ->
   (∀ m,m<n->∀ i:Nat,t.place[i]?=kb (walk t.mask (st t.mask (tupleKeyHash (intKind prog w) k)) m).j->ks[i]?≠kb k)->wpAny (model prog w) A (setSearchFrom a (.ref b) (tupleKeyHash (intKind prog w) k) V0 fuel stand) Q E s
 | 0,n,stand,a1,a2,_,_=>by lia
 | fuel+1,n,stand,a1,a2,a3,a4=>by
  have hfit:=fits_of T (n:=es.size) (by simp);unfold setSearchFrom;refine aa (bZ ho hd hfit ?_);dsimp only;have hgw:t.gaveWay=V1:=by unfold SetTable.gaveWay;rcases T.m with z | z | z<;>rw[z]<;>decide
  rw[hgw];simp only[aS,bP];rw[a3];generalize hpr:SetTable.probe t _ (tupleKeyHash (intKind prog w) k) _=r;obtain⟨f,hff,hpr⟩:∃ f:Nat->Int,(∀ i,f i=((es[i]?.map (·.1)).getD 0))/\SetTable.probe t f (tupleKeyHash (intKind prog w) k) (walk t.mask (st t.mask (tupleKeyHash (intKind prog w) k)) n)=r:=⟨_,λ _=>rfl,hpr⟩;unfold SetTable.probe at hpr;have keyOf:∀ (i j:Nat),t.place[i]?=kb j->∃ k' b',ks[i]?=kb k'/\es[i]?=kb (tupleKeyHash (intKind prog w) k',Value.ref b')/\lZ prog w s.heap k' b':=λ i j hj=>by
   have hi:i<es.size:=by have:=(cf.mp hj).1;rw[T.sz]at this;simpa using this
   obtain⟨k',b',q1,q2,q3⟩:=En.get i es[i] (by simp[hi]);exact⟨k',b',q1,by rw[<-q2];simp[hi],q3.1⟩
  have skipN:∀ m,(∀ i:Nat,t.place[i]?=kb (walk t.mask (st t.mask (tupleKeyHash (intKind prog w) k)) m).j->f i≠tupleKeyHash (intKind prog w) k)->∀ i:Nat,t.place[i]?=kb (walk t.mask (st t.mask (tupleKeyHash (intKind prog w) k)) m).j->ks[i]?≠kb k:=λ m hm i hi hki=>by obtain⟨k',b',q1,q2,_⟩:=keyOf i _ hi;rw[q1]at hki;cases hki;exact hm i hi (by rw[hff,q2];rfl)
  rcases Bs T (hashAt:=f) he hb (10*SetTable.turns t.mask) n a1 (by lia) with⟨p1,p2⟩ | ⟨m,i,b1,b2,b3,b4,b5,b6⟩
  ·rw[p1]at hpr
   subst hpr;dsimp only;refine ah (h2 λ m hm=>?_);by_cases hmn:m<n
   ·exact a4 m hmn
   ·exact skipN m (p2 m (by lia) hm)
  ·rw[b6]at hpr
   subst hpr;dsimp only;obtain⟨k',b',q1,q2,q3⟩:=keyOf i _ b3;have cont:wpAny (model prog w) A (do
     let kb (_,y):=es[i]? | unsupported "internal:set-entry"
     let equal<-holding [y] (eqBool y (.ref b));let (es',_,t')<-setState a
     if V0&&equal then return .there My
     let kb same:=t'.sameMemory t.moves t.mask | unsupported "set.changed-during-lookup:is-the-new-block-at-the-old-address"
     let still<-match (if same then t'.slot (walk t.mask (st t.mask (tupleKeyHash (intKind prog w) k)) m).j else .empty) with
      | .live i'=>match es'[i']? with
       | some (_,y')=>do pure (if<-isSame y' y then kb i' else My)
       | none=>pure My
      | _=>pure My
     match still with
     | none=>rule "set.search.anew";setSearchFrom a (.ref b) (tupleKeyHash (intKind prog w) k) V0 fuel My
     | some i'=>if equal then return .there (kb i') else setSearchFrom a (.ref b) (tupleKeyHash (intKind prog w) k) V0 fuel (kb (walk t.mask (st t.mask (tupleKeyHash (intKind prog w) k)) (m+1)))) Q E s:=by
    rw[q2];dsimp only;refine aa (bT (wpAny_eqBool_tuple hu q3 hk ?_));refine aa (bZ ho hd hfit ?_);dsimp only;by_cases hkk:k'=k
    ·rw[decide_eq_true hkk];simp only[Bool.and_self,cJ];exact ah (h1 (bc (hkk▸q1)))
    ·rw[decide_eq_false hkk]
     simp only[fX,aS,bP];have hsm:t.sameMemory t.moves t.mask=kb V0:=by unfold SetTable.sameMemory;simp
     rw[hsm];dsimp only;simp only[cJ];rw[tZ T.ri b3];dsimp only;rw[q2];dsimp only;refine aa (wpAny_isSame_ref_self ?_);simp only[cJ];refine aa (ah ?_);dsimp only;refine uY hu ho hd T En hk he hb hf h1 h2 fuel (m+1) _ (by lia) (by lia) rfl λ m' hm'=>?_;by_cases c1:m'<n
     ·exact a4 m' c1
     ·by_cases c2:m'<m
      ·exact skipN m' (b5 m' (by lia) c2)
      ·have:m'=m:=by lia
       subst this;intro i' hi' hki';have:i'=i:=(below_at T.ri hi').symm.trans (below_at T.ri b3);rw[this,q1]at hki';exact hkk (aF hki')
   by_cases hled:t.led=V0
   ·rw[hled];simp only[di,aS,bP];exact cont
   ·have hled:t.led=V1:=by simpa using hled
    rw[hled];simp only[fY,cJ];refine aa (LL hk (λ v hv=>?_) ?_)
    ·obtain⟨ev,he1,he2⟩:=aE.mp hv
     have he3:ev∈es.toList:=by have:=he1;rw[Array.toList_filter]at this;exact(aT.mp this).1
     obtain⟨i',hi',ei'⟩:=bX he3;obtain⟨k'',b'',_,q5,q6⟩:=En.get i' ev (by rw[<-ei'];simp[hi']);rw[q5]at he2;exact⟨b'',k'',he2.symm,q6.1⟩
    ·simp only[aS,bP];exact cont
end
set_option tactic.hygienic true in
theorem Fd {mask:Nat}(h:Int):∀ n,(walk mask (st mask h) n).j+(walk mask (st mask h) n).more<=mask/\(walk mask (st mask h) n).i<=mask
 | 0=>by have h1:=bits_le mask h;have h2:=pQ h1;show V7 h % (mask+1)+(V6 mask (V7 h % (mask+1))-V7 h % (mask+1))<=mask/\V7 h % (mask+1)<=mask;lia
 | n+1=>by
  obtain⟨h1,h2⟩:=Fd (mask:=mask) h n;show(adv mask (walk mask (st mask h) n)).j+(adv mask (walk mask (st mask h) n)).more<=mask/\(adv mask (walk mask (st mask h) n)).i<=mask;unfold adv;split
  ·rename_i hm;show(walk mask (st mask h) n).j+1+((walk mask (st mask h) n).more-1)<=mask/\(walk mask (st mask h) n).i<=mask;lia
  ·have h3:(SetTable.leap mask (walk mask (st mask h) n).i (walk mask (st mask h) n).perturb).1<=mask:=cx (fw _ (gJ _));have h4:=pQ h3;dsimp only;lia
theorem Iu {α:Type}(l:List α)(p:Nat)(x:α):(SetTable.insertAt l.toArray p x).toList=l.take p++x::l.drop p:=by rw[eQ]
theorem uZ {α β:Type}{F:α->β->Prop}:∀ {xs:List α} {ys:List β} (n:Nat),Paired F xs ys->Paired F (xs.take n) (ys.take n)
 | _,_,0,_=>.nil
 | _,_,_+1,.nil=>.nil
 | _,_,n+1,.cons h t=>.cons h (uZ n t)
theorem u3 {α β:Type}{F:α->β->Prop}:∀ {xs:List α} {ys:List β} (n:Nat),Paired F xs ys->Paired F (xs.drop n) (ys.drop n)
 | _,_,0,h=>h
 | _,_,_+1,.nil=>.nil
 | _,_,n+1,.cons _ t=>u3 n t
theorem Dx {α β:Type}{F:α->β->Prop}:∀ {xs xs':List α} {ys ys':List β},Paired F xs ys->Paired F xs' ys'->Paired F (xs++xs') (ys++ys')
 := by
  intro xs xs' ys ys' h h';induction h with
  | nil=>exact h'
  | cons h t ih=>exact .cons h ih
theorem oM {α β:Type}{F G:α->β->Prop}(k:∀ a b,F a b->G a b):∀ {xs:List α} {ys:List β},Paired F xs ys->Paired G xs ys
 | _,_,.nil=>.nil
 | _,_,.cons h t=>.cons (k _ _ h) (oM k t)
theorem Dy {α β:Type}{F:α->β->Prop}:∀ {xs:List α} {ys:List β},Paired F xs ys->∀ (i:Nat) (x:α) (y:β),xs[i]?=kb x->ys[i]?=kb y->F x y
 := by
  intro xs ys h;induction h with
  | nil=>intro i x y h;simp at h
  | cons h t ih =>
    intro i x y e1 e2;cases i with
    | zero =>rw[cC]at e1 e2;cases e1;cases e2;exact h
    | succ i =>rw[bG]at e1 e2;exact ih i x y e1 e2
theorem oN {α β:Type}{F:α->β->Prop}{xs:List α}{ys:List β}(P:Paired F xs ys):∀ (l:List Nat),Paired F (l.filterMap λ i=>xs[i]?) (l.filterMap λ i=>ys[i]?)
 | []=>.nil
 | i::r=>by
  have hl:=P.length;rw[bW,bW];by_cases hi:i<xs.length
  ·have e1:xs[i]?=kb xs[i]:=by simp[hi]
   have e2:ys[i]?=kb (ys[i]'(by lia)):=by simp[show i<ys.length by lia]
   rw[e1,e2];exact .cons (Dy P i _ _ e1 e2) (oN P r)
  ·have e1:xs[i]?=My:=bu (by lia);have e2:ys[i]?=My:=bu (by lia);rw[e1,e2];exact oN P r
section
variable {prog:Program}{w:World}{A:Around}{E:g0}{s:hE}{G:List Int->Addr->Prop}
theorem Fe {h h':Heap}{k:List Int}{a b:Addr}{o:Obj}{es:Array (Int×g_)}{ep:Nat}{t:SetTable}(x:lZ prog w h k b)(ho:h.get? a=kb o)(hd:o.data=.set es ep t)(sb:Heap.SameBut a h h'):lZ prog w h' k b:=by
 obtain⟨ob,its,n,e1,e2,e3,e4⟩:=x;have:b≠a:=by rintro rfl;rw[e1]at ho;cases ho;rw[e3]at hd;cases hd
 exact⟨ob,its,n,(sb.2 b this).trans e1,e2,e3,e4⟩
theorem t4.sb {h h':Heap}{ks:List (List Int)}{a:Addr}{l:List (Int×g_)}{o:Obj}{es:Array (Int×g_)}{ep:Nat}{t:SetTable}(x:t4 G prog w h ks l)(ho:h.get? a=kb o)(hd:o.data=.set es ep t)(sb:Heap.SameBut a h h'):t4 G prog w h' ks l :=
 oM (λ k e ⟨b,e1,hb⟩=>⟨b,e1,Fe hb.1 ho hd sb,hb.2⟩) x
def Iv (mask n:Nat):Prop:=(mask=7/\n<=4)\/(mask=31/\n<=18)\/(mask=127/\n<=76)
def wL (G:List Int->Addr->Prop)(prog:Program)(w:World)(h:Heap)(a:Addr)(ks:List (List Int)):Prop:=∃ o es ep t,h.get? a=kb o/\o.ExactSet/\o.data=.set es ep t/\TOk t (es.toList.map (·.1))/\t4 G prog w h ks es.toList/\t.plain=V0/\t.led=!(w.params.followText "set-order")/\Iv t.mask es.size/\ks.Nodup
theorem wM {h:Heap}{a:Addr}{o:Obj}{es es':Array (Int×g_)}{ep:Nat}{t t':SetTable}(ho:h.get? a=kb o)(hd:o.data=.set es ep t):(h.update a (Obj.putSet es' t')).get? a=kb {o with data:=.set es' (ep+1) t'}:=by have:=dE (Obj.putSet es' t') ho (by rw[putSet_of es' t' hd];rfl);rw[putSet_of es' t' hd]at this;exact this
theorem GC {a:Addr}{o:Obj}{es:Array (Int×g_)}{ep:Nat}{t:SetTable}{ks:List (List Int)}{n:Nat}{Q:Unit->hE->Prop}(ho:s.heap.get? a=kb o)(hx:o.ExactSet)(hd:o.data=.set es ep t)(T:TOk t (es.toList.map (·.1)))(En:t4 G prog w s.heap ks es.toList)
  (hp:t.plain=V0) (hl:t.led=!(w.params.followText "set-order")) (nd:ks.Nodup) (hm:Mk (SetTable.sizeAbove n-1)) (hn:Iv (SetTable.sizeAbove n-1) es.size)
  (h:∀ h' ks',Heap.SameBut a s.heap h'->List.Perm ks' ks->wL G prog w h' a ks'->Q () {s with heap:=h'}):wpAny (model prog w) A (setRelay a n) Q E s:=by
 unfold setRelay;refine aa (bZ ho hd (fits_of T (by simp)) ?_);dsimp only;have hsz:¬ SetTable.sizeAbove n>sizeLine:=by rw[sizeLine_eq];rcases hm with z | z | z<;>lia
 rw[ag hsz];have hes:es.size<=SetTable.sizeAbove n-1:=by rcases hn with⟨z,q⟩ | ⟨z,q⟩ | ⟨z,q⟩<;>lia
 obtain⟨t',order,e,m1,l1,p1,perm,T'⟩:=LK hm (es.toList.map (·.1)) (by simpa using hes) t.finger (t.movedTo (SetTable.sizeAbove n-1)) t.led t.plain;have eL:t.relaid (es.map (·.1)) n=kb (t',order):=by unfold SetTable.relaid;rw[<-e];congr 1;apply Array.ext';simp
 rw[eL];have hlen:(order.filterMap λ i=>es[i]?).size=es.size:=by
  have h1:(order.filterMap λ i=>es[i]?).toList=order.toList.filterMap λ i=>es.toList[i]?:=by simp
  have h2:(order.filterMap λ i=>es[i]?).toList.length=es.toList.length:=by rw[h1];have:=(perm.filterMap λ i=>es.toList[i]?).length_eq;rw[this];rw[ak];rw[cL]
  rw[cw,cw]at h2;exact h2
 refine aa ?_;show wpAny _ _ (do
  let es':=order.filterMap λ i=>es[i]?
  if (es'.size != es.size)=V0 then unsupported "internal:set-table-lost-an-element"
  pure (es',t')) _ _ _
 dsimp only;rw[hlen];simp only[bne_self_eq_false,aS,bP];refine ah ?_;dsimp only;have sb:=cN s.heap a (Obj.putSet (order.filterMap λ i=>es[i]?) t');refine wpAny_storeSet_of ho hd (h _ (order.toList.filterMap λ i=>ks[i]?) sb ?_ ⟨_,_,_,_,wM ho hd,hx,rfl,?_,?_,p1.trans hp,l1.trans hl,?_,?_⟩) ?_
 ·have hkl:ks.length=es.toList.length:=En.length;have:=perm.filterMap λ i=>ks[i]?;rw[ak,<-hkl,cL]at this;exact this
 ·have e1:(order.filterMap λ i=>es[i]?).toList.map (·.1)=order.toList.filterMap λ i=>(es.toList.map (·.1))[i]?:=by
   rw[Array.toList_filterMap,List.map_filterMap];congr 1;funext i;simp
  rw[e1];exact T'
 ·have:t4 G prog w _ ks es.toList:=En.sb ho hd sb;have q:=oN this order.toList;rw[Array.toList_filterMap];refine Eq.mp ?_ q;congr 1;congr 1;funext i;simp
 ·rw[m1,hlen];exact hn
 ·have hkl:ks.length=es.toList.length:=En.length;have:=perm.filterMap λ i=>ks[i]?;rw[ak,<-hkl,cL]at this;exact this.nodup_iff.mpr nd
 ·rw[hlen,sizeLine_eq];rcases hn with⟨z,q⟩ | ⟨z,q⟩ | ⟨z,q⟩<;>lia
theorem LM {a:Addr}{ks:List (List Int)}{k:List Int}{b:Addr}{Q:Bool->hE->Prop}(hu:A.units<cLine)(S:wL G prog w s.heap a ks)(hk:lZ prog w s.heap k b)(hg:G k b)(hn:ks.length<40)
  (h:∀ h' ks' c tk,Heap.SameBut a s.heap h'->wL G prog w h' a ks'->List.Perm ks' (if k∈ks then ks else k::ks)->Q c {s with heap:=h',toks:=tk}):wpAny (model prog w) A (setAdd a (.ref b)) Q E s:=by
 unfold setAdd;refine bT (aa (wpAny_pyHash_tuple hu hk ?_));show wpAny (model prog w) A (setAddHashed a (.ref b) (tupleKeyHash (intKind prog w) k)) Q E {s with toks:=s.toks+(k.length+1)};unfold setAddHashed;refine bT ?_;obtain⟨o,es,ep,t,ho,hx,hd,T,En,hp,hl,hr,nd⟩:=S;have hkl:ks.length=es.size:=by simpa using En.length
 have hfit:=fits_of T (n:=es.size) (by simp);unfold setAddHashedIn;refine aa (bZ ho hd hfit ?_);dsimp only;have hbs:byScan (.ref b) es=V1:=rfl;rw[hbs];simp only[aS,bP];obtain⟨e,he1,he2,he3⟩:=GA T (tupleKeyHash (intKind prog w) k);refine aa ?_;unfold setSearch;refine uY (s:={s with toks:=s.toks+(k.length+1)}) hu ho hd T En hk he2 he3 he1 (λ hin=>?_) (λ hno=>?_) 100000 0 My (aZ _) ?_ rfl (λ m hm=>absurd hm (dM _))
 ·dsimp only;refine ah ?_;have:=h s.heap ks V1 (s.toks+(k.length+1)) (Heap.SameBut.refl a s.heap) ⟨o,es,ep,t,ho,hx,hd,T,En,hp,hl,hr,nd⟩ (by rw[ae hin]);exact this
 ·have hnk:k∉ks:=λ hm=>by
   obtain⟨i,hi,ei⟩:=bX hm;have hki:ks[i]?=kb k:=by rw[<-ei];simp[hi]
   have hie:i<es.size:=by lia
   obtain⟨k',b',q1,q2,q3⟩:=En.get i es[i] (by simp[hie]);rw[hki]at q1;cases q1;have hpl:i<t.place.size:=by rw[T.sz];simpa using hie
   have hpi:t.place[i]?=kb t.place[i]:=by simp[hpl]
   obtain⟨n,r1,r2⟩:=T.rc i t.place[i] (tupleKeyHash (intKind prog w) k) hpi (by simp[hie,q2]);have hne:n<e:=by
    rcases gu n e with z | z | z
    ·exact z
    ·exact absurd ⟨i,by rw[<-z,r1];exact hpi⟩ he2
    ·exact absurd (r2 e z) he2
   exact hno n hne i (by rw[r1];exact hpi) hki
  dsimp only;refine aa (bZ ho hd hfit ?_);dsimp only;have hj:=(Fd (mask:=t.mask) (tupleKeyHash (intKind prog w) k) e).1;have hro:t.place.size+1<=t.mask:=by have:=T.sz;rw[ak,cw]at this;rcases hr with⟨z,q⟩ | ⟨z,q⟩ | ⟨z,q⟩<;>lia
  have T1:=Pj T he2 he3 (bg (dZ _ _) hj) hro (led:=V0) (plain:=V0);generalize hjj:(walk t.mask (st t.mask (tupleKeyHash (intKind prog w) k)) e).j=j at *;have hpp:(t.put j).1.plain=V0:=hp;rw[hpp];simp only[cJ];refine aa (GB (s:={s with toks:=s.toks+(k.length+1)}) hk ?_);simp only[cJ];have ep2:(t.put j).2=V5 t.place j:=rfl;rw[ep2];have tEq:({(t.put j).1 with plain:=V0}:SetTable)=(t.put j).1:=by
   have:∀ (u:SetTable),u.plain=V0->({u with plain:=V0}:SetTable)=u:=λ u hu=>by cases u;cases hu;rfl
   exact this _ hpp
  rw[tEq]at T1;generalize hes1:SetTable.insertAt es (V5 t.place j) (tupleKeyHash (intKind prog w) k,Value.ref b)=es1;have hl1:es1.toList=es.toList.take (V5 t.place j)++(tupleKeyHash (intKind prog w) k,Value.ref b)::es.toList.drop (V5 t.place j):=by rw[<-hes1,eQ]
  have hs1:es1.size=es.size+1:=by rw[<-hes1,sx]
  have T2:TOk (t.put j).1 (es1.toList.map (·.1)):=by rw[Iu]at T1;rw[hl1,bp,au,List.map_take,List.map_drop];exact T1
  have sb1:=cN s.heap a (Obj.putSet es1 (t.put j).1);have En1:t4 G prog w (s.heap.update a (Obj.putSet es1 (t.put j).1)) (ks.take (V5 t.place j)++k::ks.drop (V5 t.place j)) es1.toList:=by rw[hl1];have q:=En.sb ho hd sb1;exact Dx (uZ _ q) (.cons ⟨b,rfl,Fe hk ho hd sb1,hg⟩ (u3 _ q))
  have pm:List.Perm (ks.take (V5 t.place j)++k::ks.drop (V5 t.place j)) (k::ks):=by have:=@List.perm_middle _ k (ks.take (V5 t.place j)) (ks.drop (V5 t.place j));rw[List.take_append_drop]at this;exact this
  have nd1:(ks.take (V5 t.place j)++k::ks.drop (V5 t.place j)).Nodup:=pm.nodup_iff.mpr (bq.mpr ⟨hnk,nd⟩);refine aa (wpAny_storeSet_of (s:={s with toks:=s.toks+(k.length+1)}) ho hd ?_ (by rw[hs1,sizeLine_eq];lia));have hpm:∀ ks',List.Perm ks' (ks.take (V5 t.place j)++k::ks.drop (V5 t.place j))->List.Perm ks' (if k∈ks then ks else k::ks):=λ ks' p=>by rw[ag hnk];exact p.trans pm
  by_cases hf:(t.put j).1.tooFull=V0
  ·rw[hf]
   simp only[fY,Bool.and_self,cJ];have hfill:(t.put j).1.fill=es.size+1:=by have h1:=T2.sz;have h2:=T2.d;unfold SetTable.fill;rw[h1,h2];simp[hs1]
   have hff:(es.size+1)*5≥t.mask*3:=by unfold SetTable.tooFull at hf;rw[hfill,show(t.put j).1.mask=t.mask from rfl]at hf;simpa using hf
   have hcase:(t.mask=7/\es.size=4)\/(t.mask=31/\es.size=18):=by
    rcases hr with⟨z,q⟩ | ⟨z,q⟩ | ⟨z,q⟩
    ·rw[z]at hff;exact .inl ⟨z,by lia⟩
    ·rw[z]at hff;exact .inr ⟨z,by lia⟩
    ·rw[z]at hff;lia
   have hsa:SetTable.sizeAbove (SetTable.grown (4+1))=32:=by decide
   have hsb:SetTable.sizeAbove (SetTable.grown (18+1))=128:=by decide
   refine aa (GC (s:={s with heap:=s.heap.update a (Obj.putSet es1 (t.put j).1),toks:=s.toks+(k.length+1)}) (n:=SetTable.grown (es.size+1)) (wM ho hd) hx rfl T2 En1 hpp hl nd1 ?_ ?_ λ h2 ks2 sb2 p2 S2=>?_)
   ·rcases hcase with⟨_,z⟩ | ⟨_,z⟩
    ·rw[z,hsa];exact .inr (.inl rfl)
    ·rw[z,hsb];exact .inr (.inr rfl)
   ·rcases hcase with⟨_,z⟩ | ⟨_,z⟩
    ·rw[z,hsa,hs1,z];exact .inr (.inl ⟨rfl,by lia⟩)
    ·rw[z,hsb,hs1,z];exact .inr (.inr ⟨rfl,by lia⟩)
   ·exact ah (h h2 ks2 V0 _ (sb1.trans sb2) S2 (hpm _ p2))
  ·have hf':(t.put j).1.tooFull=V1:=by simpa using hf
   rw[hf'];simp only[fX,aS,bP];have hfill:(t.put j).1.fill=es.size+1:=by have h1:=T2.sz;have h2:=T2.d;unfold SetTable.fill;rw[h1,h2];simp[hs1]
   have hff:¬ (es.size+1)*5≥t.mask*3:=by unfold SetTable.tooFull at hf';rw[hfill,show(t.put j).1.mask=t.mask from rfl]at hf';simpa using hf'
   refine ah (h _ _ V0 _ sb1 ⟨_,es1,_,(t.put j).1,wM ho hd,hx,rfl,T2,En1,hpp,hl,?_,nd1⟩ (hpm _ (gU _)));show Iv t.mask es1.size;rw[hs1];rcases hr with⟨z,q⟩ | ⟨z,q⟩ | ⟨z,q⟩
   ·rw[z]at hff;exact .inl ⟨z,by lia⟩
   ·rw[z]at hff;exact .inr (.inl ⟨z,by lia⟩)
   ·rw[z]at hff;exact .inr (.inr ⟨z,by lia⟩)
 ·have:SetTable.turns t.mask<=142:=by
   unfold SetTable.turns;rcases T.m with z | z | z<;>lia
  lia
end
section
variable {prog:Program}{w:World}{A:Around}{E:g0}{s:hE}{G:List Int->Addr->Prop}
theorem qB {h h':Heap}{k:List Int}{b:Addr}(x:lZ prog w h k b)(kp:∀ o,h.get? b=kb o->h'.get? b=kb o):lZ prog w h' k b :=
 let ⟨o,its,n,e1,e2,e3,e4⟩:=x
 ⟨o,its,n,kp o e1,e2,e3,e4⟩
theorem t4.keep {h h':Heap}{ks:List (List Int)}{es:List (Int×g_)}(x:t4 G prog w h ks es)(kp:∀ b o,h.get? b=kb o->o.cls=.type "tuple"->h'.get? b=kb o):t4 G prog w h' ks es :=
 oM (λ k e ⟨b,e1,hb⟩=>⟨b,e1,qB hb.1 (λ o ho=>kp b o ho (by obtain⟨o',its,n,q1,q2,_⟩:=hb.1;rw[q1]at ho;cases ho;exact q2)),hb.2⟩) x
theorem wL.keep {h h':Heap}{a:Addr}{ks:List (List Int)}(S:wL G prog w h a ks)(ka:∀ o,h.get? a=kb o->h'.get? a=kb o)(kp:∀ b o,h.get? b=kb o->o.cls=.type "tuple"->h'.get? b=kb o):wL G prog w h' a ks :=
 by
 obtain⟨o,es,ep,t,ho,hx,hd,T,En,r⟩:=S;exact⟨o,es,ep,t,ka o ho,hx,hd,T,En.keep kp,r⟩
theorem Iw {R:Result->hE->Prop}(hh:A.in1.handled=My)(hu:A.in1.units<cLine){S I l:Addr}{items:Array g_}{kk:List (List Int)}(hk:kk.length=items.size)(h40:items.size<=40)(n1:S≠I)(n2:S≠l)(n3:l≠I) :
  ∀ (n i:Nat) (s:hE) (ks:List (List Int)),items.size-i=n->i<=items.size->s.heap.IsListIter I l i->s.heap.IsList l items->wL G prog w s.heap S ks ->
   (∀ (j:Nat) v,items[j]?=kb v->∃ k b,kk[j]?=kb k/\v=.ref b/\lZ prog w s.heap k b/\G k b)->ks.length<=i->(∀ k,k∈ks↔k∈kk.take i) ->
   (∀ h' tk ks',(∀ b o,b≠S->b≠I->s.heap.get? b=kb o->h'.get? b=kb o)->wL G prog w h' S ks'->(∀ k,k∈ks'↔k∈kk)->R (.ok (.ret .none)) {s with heap:=h',toks:=tk}) ->
   codeAny (model prog w) A (.builtin "set.update.loop" ⟨[.ref S,.ref I],[]⟩) R s:=by
 intro n;induction n using Nat.strongRecOn with
 | ind n ih =>
  intro i s ks hn hi st hl hS hv hlen hm fin;refine codeAny_builtin F.entry_set_update_loop ?_;rw[Around.under_plainId F.plain_set_update_loop _];have tupI:∀ {h h':Heap} {b:Addr} {o:Obj} {x:Addr} {j:Nat},h.IsListIter x l j->h.get? b=kb o->o.cls=.type "tuple"->b≠x:=λ hit e c z=>by obtain⟨o',e',c',_⟩:=hit;rw[z,e']at e;cases e;rw[c']at c;injection c with c;exact absurd c (by decide)
  by_cases hlt:i<items.size
  ·show wpAny _ A.in1 (pyNext (.ref I)>>=_) _ _ s
   refine aa (wpAny_pyNext_list_item st hl (x:=items[i]) (by simp[hlt]) λ h' st' sb=>?_);obtain⟨k,b,hkk,eb,tb,gb⟩:=hv i items[i] (by simp[hlt]);rw[eb];have bI:b≠I:=by obtain⟨o,its,m,q1,q2,_⟩:=tb;exact tupI (h':=h') st q1 q2
   have S1:wL G prog w h' S ks:=hS.keep (λ o e=>(sb.2 S n1).trans e) λ c o e hc=>(sb.2 c (tupI (h':=h') st e hc)).trans e;have tb1:lZ prog w h' k b:=qB tb λ o e=>(sb.2 b bI).trans e;refine aa (bT (LM (s:={s with heap:=h'}) hu S1 tb1 gb (by lia) λ h2 ks2 c tk sb2 S2 p2=>?_));have keep2:∀ x o,x≠S->x≠I->s.heap.get? x=kb o->h2.get? x=kb o:=λ x o x1 x2 e=>(sb2.2 x x1).trans ((sb.2 x x2).trans e);refine ah ⟨plainId_quiet F.plain_set_update_loop _,?_⟩;have mem2:∀ k',k'∈ks2↔k'∈kk.take (i+1):=λ k'=>by
    rw[p2.mem_iff,List.take_add_one,hkk,bh,<-hm k'];by_cases hin:k∈ks
    ·rw[ae hin];simp only[Option.toList_some,aG,cE,or_false];exact⟨.inl,λ z=>z.elim id λ z=>z▸hin⟩
    ·rw[ag hin];simp only[Option.toList_some,aG,cE,or_false];exact⟨λ z=>z.symm,λ z=>z.symm⟩
   have len2:ks2.length<=i+1:=by
    rw[p2.length_eq];split
    ·lia
    ·rw[aW];lia
   obtain⟨ol,hol,hcl,m,hdl⟩:=id hl;refine ih (n-1) (by lia) (i+1) {s with heap:=h2,toks:=tk} ks2 (by lia) hlt ?_ ⟨ol,keep2 l ol n2.symm n3 hol,hcl,m,hdl⟩ S2 (λ j v hj=>?_) len2 mem2 λ h3 tk3 ks3 kp3 S3 m3=>?_
   ·obtain⟨oI,eI,cI,dI⟩:=st';exact⟨oI,(sb2.2 I n1.symm).trans eI,cI,dI⟩
   ·obtain⟨k',b',q1,q2,q3,g3⟩:=hv j v hj
    refine⟨k',b',q1,q2,qB q3 λ o e=>?_,g3⟩;have c1:b'≠I:=by obtain⟨o',its,m,z1,z2,_⟩:=q3;exact tupI (h':=h') st z1 z2
    have c2:b'≠S:=by rintro rfl;obtain⟨oS,es,ep,t,z1,_,z2,_⟩:=hS;obtain⟨o',its,m,y1,_,y3,_⟩:=q3;rw[z1]at y1;cases y1;rw[z2]at y3;cases y3
    exact keep2 b' o c2 c1 e
   ·exact fin h3 tk3 ks3 (λ x o x1 x2 e=>kp3 x o x1 x2 (keep2 x o x1 x2 e)) S3 m3
  ·have e:i=items.size:=by lia
   show wpAny _ A.in1 (pyNext (.ref I)>>=_) _ _ s;refine aa (wpAny_pyNext_list_end hh st hl (d9 (fg e.symm)) λ h' eb=>?_);show wpAny _ A.in1 (ret Value.none) _ _ _;refine ah (fin h' s.toks ks (λ x o _ x2 q=>eb x o x2 q) (hS.keep (λ o q=>eb S o n1 q) λ c o q hc=>eb c o (tupI (h':=h') st q hc) q) λ k=>?_);rw[hm k,e,<-hk,fx]
theorem LN {a:g_}{Q₁:g0}(h:Q₁ (.ref s.heap.objs.size) {s with heap:=s.heap.push {cls:=.type "set",dict:=My,data:=.set #[] 0 (.fresh 0 0 (!(w.params.followText "set-order")))}}) :
  codeAny (model prog w) A (.call (.builtin "set.__new__") ⟨[.type "set",a],[]⟩) (wants Q₁ E) s:=by
 refine codeAny_of_tree ?_;show wpAny _ A.in1 (checkBuiltinCall "set.__new__" ⟨[.type "set",a],[]⟩>>=λ _=>again (.builtin "set.__new__" ⟨[.type "set",a],[]⟩)) _ _ s;refine aa (wpAny_of_eq (F.newCall_set_1 a) ?_);refine ah ⟨plainId_quiet F.plain_set_new _,codeAny_builtin F.entry_set_new ?_⟩;rw[Around.under_plainId F.plain_set_new _];unfold Builtin.«set.__new__» Builtin.Frozenset.newClass;have hsub:=sub_set_self;obtain⟨hp,g,d,tk,os⟩:=s;dsimp only
 wp_walk
 refine fy (ah ?_);dsimp only;simp only[newObj];refine aa (wpAny_alloc (ah ?_));exact ah h
theorem Bu {l:Addr}{items:Array g_}{kk:List (List Int)}{Q:g0}(hh:A.handled=My)(hu:A.units+40<cLine)(hl:s.heap.IsList l items)(hk:kk.length=items.size)(h40:items.size<=40)
  (hv:∀ (j:Nat) v,items[j]?=kb v->∃ k b,kk[j]?=kb k/\v=.ref b/\lZ prog w s.heap k b/\G k b)
  (h:∀ h' tk ks,(∀ b o,b<s.heap.objs.size->s.heap.get? b=kb o->h'.get? b=kb o)->wL G prog w h' s.heap.objs.size ks->(∀ k,k∈ks↔k∈kk)->Q (.ref s.heap.objs.size) {s with heap:=h',toks:=tk}) :
  wpAny (model prog w) A (call (.type "set") [.ref l]) Q E s:=by
 obtain⟨c0,tl0,hmro⟩:=d_.mro;have hmade:=d_.made;have hsub:=d_.sub;refine wpAny_call (codeAny_of_tree ?_);show wpAny _ _ (callAny (.type "set") _) _ _ _;refine ah ⟨Code.quiet_builtin _ (by decide +kernel),codeAny_builtin F.entry_type_call ?_⟩;rw[Around.under_plain (weight_type_call_type "set" [.ref l] []) rfl];have hnt:=d_.notType;have hcc:=d_.canCreate;have hct:=F.typeCall_set_1 (.ref l);repeat (any_goals (first | assumption | wp_step))
 refine codeAny_mono (LN (a:=.ref l) (E:=E) (Q₁:=λ obj s₁=>obj=.ref s.heap.objs.size/\s₁={s with heap:=s.heap.push {cls:=.type "set",dict:=My,data:=.set #[] 0 (.fresh 0 0 (!(w.params.followText "set-order")))}}) ⟨rfl,rfl⟩) λ r s₁ hr=>?_;cases r with
 | error e=>exact hr
 | ok fl =>
  cases fl with
  | ret obj =>
   obtain⟨rfl,rfl⟩:=hr;generalize hN0:({cls:=.type "set",dict:=My,data:=.set #[] 0 (.fresh 0 0 (!(w.params.followText "set-order")))}:Obj)=N0;have hS:(s.heap.push N0).get? s.heap.objs.size=kb N0:=aK _ (by rw[<-hN0];rfl);have hT:Shared.TypeIs {s with heap:=s.heap.push N0} (.ref s.heap.objs.size) "set":=⟨_,hS,by rw[<-hN0]⟩;have hli:=d_.init.lookup;have hbi:=d_.init.bind (.ref s.heap.objs.size);repeat (any_goals (first | assumption | wp_step))
   refine codeAny_mono (codeAny_call_builtin (R:=wants (λ r s₂=>r=.none/\∃ h' tk ks,s₂={s with heap:=h',toks:=tk}/\wL G prog w h' s.heap.objs.size ks/\(∀ k,k∈ks↔k∈kk)/\(∀ b o,b<s.heap.objs.size->s.heap.get? b=kb o->h'.get? b=kb o)) E)
    d_.init.plain F.entry_set_init (check_set_init_1 hT ?_)) λ r₂ s₂ hr₂=>?_
   ·obtain⟨ol,hol,hcl,nl,hdl⟩:=id hl
    obtain⟨ocls,odict,odata,oslots⟩:=ol;simp only at hcl hdl;subst hcl;subst hdl;have hol':(s.heap.push N0).get? l=kb {cls:=.type "list",dict:=odict,data:=.seq items nl,slots:=oslots}:=ai _ hol;have hsls:=F.sub_list_set;have hslf:=F.sub_list_frozenset;have hne:(Value.type "list"==Value.type "dict")=V1:=by decide
    have hl1:(s.heap.push N0).IsList l items:=⟨_,hol',rfl,nl,rfl⟩;have hS0:(s.heap.push N0).get? s.heap.objs.size=kb {cls:=.type "set",dict:=My,data:=.set #[] 0 (.fresh 0 0 (!(w.params.followText "set-order")))}:=by rw[hS,hN0]
    unfold Builtin.«set.__init__» noKeywords Builtin.Frozenset.updateFrom;generalize hPI:pyIter=PI
    wp_walk
    subst hPI;refine fc hl1 ?_;refine aa (wpAny_runValue ?_);have hlS:l<s.heap.objs.size:=aw hol;have szP:(s.heap.push N0).objs.size=s.heap.objs.size+1:=cn ..;have keep:∀ b o,s.heap.get? b=kb o->((s.heap.push N0).push {cls:=.type "list_iterator",data:=.fields #[.ref l,.int 0 0]}).get? b=kb o:=λ b o e=>ai _ (ai _ e);refine Iw (G:=G) (A:=A.in1.in1) (by simp[hh]) (cB (show A.units+3<=A.units+40 by lia) hu) hk h40 (by rw[szP];exact aU (eJ _)) (bR hlS) (by rw[szP];exact aU (eD hlS)) items.size 0 _ [] (by lia) (aZ _)
     ⟨_,aK _ rfl,rfl,rfl⟩ (hl1.push _) ⟨_,#[],0,.fresh 0 0 (!(w.params.followText "set-order")),ai _ hS0,⟨rfl,rfl,rfl⟩,rfl,?_,.nil,rfl,rfl,.inl ⟨rfl,aZ _⟩,List.nodup_nil⟩ (λ j v hj=>?_) (aq _) (by simp) λ h' tk ks kp S' m'=>?_
    ·exact⟨.inl rfl,rfl,λ a b x y _ e=>by simp[SetTable.fresh]at e,λ i j e=>by simp[SetTable.fresh]at e,rfl,aZ _,λ i j h e=>by simp[SetTable.fresh]at e⟩
    ·obtain⟨k,b,q1,q2,q3,g3⟩:=hv j v hj;exact⟨k,b,q1,q2,qB q3 (λ o e=>keep b o e),g3⟩
    ·show wpAny _ _ _ _ _ _;refine ah ?_;show wpAny _ _ (ret Value.none) _ _ _;refine ah ⟨rfl,h',tk,ks,rfl,S',m',λ b o hb e=>kp b o (aU hb) (by rw[szP];exact aU (eD hb)) (keep b o e)⟩
   ·cases r₂ with
    | error e=>exact hr₂
    | ok fl₂ =>
     cases fl₂ with
     | ret r =>
      obtain⟨rfl,h',tk,ks,rfl,S',m',kp⟩:=hr₂;repeat (any_goals (first | assumption | wp_step))
      exact h _ _ _ kp S' m'
     | _=>exact hr₂.elim
  | _=>exact hr.elim
end
end Tb
namespace Tb
open PySem PySem.W PyProof.Rows
def Tr {α:Type}(n:Nat)(c:Nat->Nat->Bool)(R:α->Prop):KasT α->Prop
 | .ret a=>R a
 | .ask i j k=>i<n/\j<n/\Tr n c R (k (c i j))
section
variable {n:Nat}{c:Nat->Nat->Bool}
theorem Tr.wp {α:Type}{cmp:Nat->Nat->(Bool->hE->Prop)->hE->Prop}{s:hE}{R:α->Prop}{Q:α->hE->Prop}(hc:∀ i j C,i<n->j<n->C (c i j) s->cmp i j C s)(hq:∀ a,R a->Q a s):∀ (t:KasT α),Tr n c R t->t.kasWp cmp Q s
 | .ret a,h=>hq a h
 | .ask i j k,⟨h1,h2,h3⟩=>hc i j _ h1 h2 (Tr.wp hc hq (k (c i j)) h3)
theorem Tr.bnd {α β:Type}{R:α->Prop}{R':β->Prop}{f:α->KasT β}(hf:∀ a,R a->Tr n c R' (f a)):∀ (t:KasT α),Tr n c R t->Tr n c R' (t.bind f)
 | .ret a,h=>hf a h
 | .ask i j k,⟨h1,h2,h3⟩=>⟨h1,h2,Tr.bnd hf (k (c i j)) h3⟩
end
section
variable {n:Nat}{O:KeyOrd}{X:Nat->O.α}
def Kp (X:Nat->O.α)(p:Array Nat)(i:Nat):O.α:=X (p.getD i 0)
def Pm (n:Nat)(p:Array Nat):Prop:=0<n/\List.Perm p.toList (V2 n)
theorem Pm.lt {p:Array Nat}(h:Pm n p)(i:Nat):p.getD i 0<n:=by
 rw[bC];cases e:p[i]? with
 | none=>exact h.1
 | some x =>rw[<-bF]at e;exact ay.mp (h.2.mem_iff.mp (bc e))
theorem Pm.size {p:Array Nat}(h:Pm n p):p.size=n:=by have:=h.2.length_eq;simpa using this
theorem Pm.perm {p p':Array Nat}(h:Pm n p)(q:p'.Perm p):Pm n p':=⟨h.1,(Array.perm_iff_toList_perm.mp q).trans h.2⟩
def Sor (X:Nat->O.α)(p:Array Nat)(k:Nat):Prop:=∀ i j,i<=j->j<k->O.kle (Kp X p i) (Kp X p j)
def Non (X:Nat->O.α)(p:Array Nat)(k:Nat):Prop:=∀ i j,i<=j->j<k->O.kle (Kp X p j) (Kp X p i)
theorem Dz {p:Array Nat}{i j:Nat}(hj:j<=p.size)(k:Nat):Kp X (kas_rev p i j) k=if i<=k/\k<j then Kp X p (i+j-1-k) else Kp X p k:=by
 unfold Kp kas_rev;rw[bC,getElem?_mirror_all hj];split
 ·rw[bC]
 ·rw[bC]
theorem t5 {p:Array Nat}{i j:Nat}(hj:j<=p.size)(h:∀ k,i<=k->k<j->Kp X p k=Kp X p (j-1))(k:Nat):Kp X (kas_rev p i j) k=Kp X p k:=by
 rw[Dz hj];split
 ·rw[h _ (by lia (config:={})) (by lia (config:={})),h k (by lia (config:={})) (by lia (config:={}))]
 ·rfl
theorem Iy {p:Array Nat}{src d:Nat}(hs:src<p.size)(hd:d<=src)(k:Nat):Kp X (bubble p src d) k=if k=src-d then Kp X p src else if src-d<k/\k<=src then Kp X p (k-1) else Kp X p k:=by
 have g:∀ (q:Array Nat) (i:Nat),Kp X q i=X ((q[i]?).getD 0):=λ q i=>by unfold Kp;rw[bC]
 rw[g,g,g,g,getElem?_bubble hs d hd];split
 ·rfl
 ·split<;>rfl
abbrev cO (X:Nat->O.α):Nat->Nat->Bool:=λ i j=>O.blt (X i) (X j)
theorem Iz {p:Array Nat}(P:Pm n p):∀ (f a:Nat),1<=a->Sor X p a->Tr n (cO X) (λ m=>a<=m/\m<=a+f/\Sor X p m/\(m=a+f\/O.klt (Kp X p m) (Kp X p (m-1)))) (kas_asc p f a)
 | 0,a,h1,h2=>⟨aq _,aq _,h2,.inl rfl⟩
 | f+1,a,h1,h2=>by
  refine⟨P.lt _,P.lt _,?_⟩;show Tr n (cO X) _ (if O.blt (Kp X p a) (Kp X p (a-1))=V0 then .ret a else kas_asc p f (a+1));by_cases h:O.blt (Kp X p a) (Kp X p (a-1))=V0
  ·rw[ae h];exact⟨aq _,by lia,h2,.inr h⟩
  ·rw[ag h]
   have hk:O.kle (Kp X p (a-1)) (Kp X p a):=fq h;have h3:Sor X p (a+1):=λ i j hij hj=>by
    by_cases hja:j<a
    ·exact h2 i j hij hja
    ·have:j=a:=by lia
     subst this;by_cases hi:i=j
     ·subst hi;exact dN _
     ·exact eK (h2 i (j-1) (by lia) (by lia)) hk
   have:=Iz P f (a+1) (by lia) h3;refine(show ∀ (t:KasT Nat),Tr n (cO X) _ t->Tr n (cO X) _ t from ?_) _ this;intro t;induction t with
   | ret m=>intro ⟨x1,x2,x3,x4⟩;exact⟨by lia,by lia,x3,by rw[show a+(f+1)=a+1+f by lia];exact x4⟩
   | ask i j k ih=>intro ⟨y1,y2,y3⟩;exact⟨y1,y2,ih _ y3⟩
theorem pR {p:Array Nat}{m:Nat}(h:Non X p m)(h1:1<=m)(hk:O.kle (Kp X p m) (Kp X p (m-1))):Non X p (m+1):=λ i j hij hj=>by
 by_cases hjm:j<m
 ·exact h i j hij hjm
 ·have:j=m:=by lia
  subst this;by_cases hi:i=j
  ·subst hi;exact dN _
  ·exact eK hk (h i (j-1) (by lia) (by lia))
def RK (n:Nat)(X:Nat->O.α)(lo hi:Nat)(r:Array Nat×Nat×Nat):Prop:=Pm n r.1/\Non X r.1 r.2.1/\r.2.2+1<=r.2.1/\lo<=r.2.1/\r.2.1<=hi/\∀ i,r.2.1-(r.2.2+1)<=i->i<r.2.1->Kp X r.1 i=Kp X r.1 (r.2.1-1)
theorem zZ:∀ (f:Nat) (p:Array Nat) (m q lo:Nat),Pm n p->m+f<=n->1<=m->lo<=m->Non X p m->q+1<=m->(∀ i,m-(q+1)<=i->i<m->Kp X p i=Kp X p (m-1))->Tr n (cO X) (RK n X lo (m+f)) (kas_desc f p m q)
 | 0,p,m,q,lo,P,hn,h1,hlo,h2,h3,h4=>⟨P,h2,h3,hlo,aq _,h4⟩
 | f+1,p,m,q,lo,P,hn,h1,hlo,h2,h3,h4=>by
  refine⟨P.lt _,P.lt _,?_⟩;have one:∀ (p':Array Nat) i,m+1-(0+1)<=i->i<m+1->Kp X p' i=Kp X p' (m+1-1):=λ p' i a b=>by rw[show i=m by lia];rfl
  show Tr n (cO X) _ (if O.blt (Kp X p m) (Kp X p (m-1))=V0 then _ else _);rw[show m+(f+1)=m+1+f by lia];by_cases h:O.blt (Kp X p m) (Kp X p (m-1))=V0
  ·rw[ae h]
   by_cases hq:q>0
   ·rw[ae hq]
    have hm:m<=p.size:=by rw[P.size];lia
    have ke:=t5 (X:=X) (p:=p) (i:=m-(q+1)) (j:=m) hm λ k a b=>h4 k a b;refine zZ f _ (m+1) 0 lo (P.perm (mirror_perm _ _ _ _)) (by lia) (by lia) (by lia) (pR (λ i j a b=>?_) h1 ?_) (by lia) (one _)
    ·rw[ke,ke];exact h2 i j a b
    ·rw[ke,ke];exact dR h
   ·rw[ag hq];exact zZ f p (m+1) 0 lo P (by lia) (by lia) (by lia) (pR h2 h1 (dR h)) (by lia) (one _)
  ·rw[ag h]
   refine⟨P.lt _,P.lt _,?_⟩;show Tr n (cO X) _ (if O.blt (Kp X p (m-1)) (Kp X p m)=V0 then _ else _);by_cases h':O.blt (Kp X p (m-1)) (Kp X p m)=V0
   ·rw[ae h'];exact⟨P,h2,h3,hlo,(show m<=m+1+f by lia),h4⟩
   ·rw[ag h']
    have e:Kp X p m=Kp X p (m-1):=O.total _ _ (by simpa using h) (by simpa using h');refine zZ f p (m+1) (q+1) lo P (by lia) (by lia) (by lia) (pR h2 h1 (by rw[e];exact dN _)) (by lia) λ i a b=>?_;by_cases hi:i=m
    ·rw[hi];rfl
    ·rw[show m+1-1=m by lia,e];exact h4 i (by lia) (by lia)
def Pl (n:Nat)(X:Nat->O.α)(r:Nat×Array Nat):Prop:=Pm n r.2/\Sor X r.2 r.1/\1<=r.1/\r.1<=n
theorem Ff {p:Array Nat}{m:Nat}(P:Pm n p)(h:Non X p m)(h1:1<=m)(hm:m<=n):Tr n (cO X) (Pl n X) (kas_tail3 m n p):=by
 have P1:Pm n (kas_rev p 0 m):=P.perm (mirror_perm _ _ _ _);refine Tr.bnd (λ a ⟨a1,a2,a3,_⟩=>⟨P1,a3,by lia,by lia⟩) _ (Iz P1 (n-m) m h1 λ i j hij hj=>?_);have hz:m<=p.size:=by rw[P.size];exact hm
 rw[Dz hz,Dz hz,ae (by lia),ae (by lia)];exact h _ _ (by lia) (by lia)
theorem wN {p:Array Nat}{m:Nat}(P:Pm n p)(h:Non X p (m+1))(hm:m+1<=n):Tr n (cO X) (Pl n X) (kas_descPart m n p):=by
 refine Tr.bnd (λ r hr=>?_) _ (zZ (n-(m+1)) p (m+1) 0 (m+1) P (by lia) (by lia) (aq _) h (by lia) λ i a b=>by rw[show i=m by lia];rfl);obtain⟨P',N',q1,l1,u1,e1⟩:=hr;by_cases hq:r.2.2>0
 ·rw[ae hq]
  have hz:r.2.1<=r.1.size:=by rw[P'.size];lia
  have ke:=t5 (X:=X) (p:=r.1) (i:=r.2.1-(r.2.2+1)) (j:=r.2.1) hz λ k a b=>e1 k a b;refine Ff (P'.perm (mirror_perm _ _ _ _)) (λ i j a b=>?_) (by lia) (by lia);rw[ke,ke];exact N' i j a b
 ·rw[ag hq];exact Ff P' N' (by lia) (by lia)
theorem LO {p:Array Nat}(P:Pm n p):Tr n (cO X) (Pl n X) (kas_count n p):=by
 have hn:=P.1;refine Tr.bnd (λ m ⟨m1,m2,m3,m4⟩=>?_) _ (Iz P (n-1) 1 (aq _) λ i j hij hj=>by rw[show i=0 by lia,show j=0 by lia];exact dN _);by_cases he:m=n
 ·rw[ae (by simpa using he)];exact⟨P,m3,m1,by lia⟩
 ·rw[ag (by simpa using he)]
  have hlt:O.klt (Kp X p m) (Kp X p (m-1)):=m4.resolve_left (by lia);by_cases h1:m>1
  ·rw[ae h1]
   refine⟨P.lt _,P.lt _,?_⟩;show Tr n (cO X) _ (if O.blt (Kp X p 0) (Kp X p (m-1))=V0 then _ else _);by_cases h:O.blt (Kp X p 0) (Kp X p (m-1))=V0
   ·rw[ae h];exact⟨P,m3,m1,by lia⟩
   ·rw[ag h]
    have hle:O.kle (Kp X p (m-1)) (Kp X p 0):=fq h;have hz:m<=p.size:=by rw[P.size];lia
    have all:∀ k,0<=k->k<m->Kp X p k=Kp X p (m-1):=λ k _ hk=>KeyOrd.kle_antisymm (m3 k (m-1) (by lia) (by lia)) (eK hle (m3 0 k (by lia) hk));have ke:=t5 (X:=X) (p:=p) (i:=0) (j:=m) hz all;refine wN (P.perm (mirror_perm _ _ _ _)) (pR (λ i j a b=>?_) m1 ?_) (by lia)
    ·rw[ke,ke,all i (by lia) (by lia),all j (by lia) b];exact dN _
    ·rw[ke,ke];exact dR hlt
  ·rw[ag h1]
   have:m=1:=by lia
   subst this;exact wN P (pR (λ i j a b=>by rw[show i=0 by lia,show j=0 by lia];exact dN _) (aq _) (dR hlt)) (by lia)
theorem z3 {p:Array Nat}{k:Nat}(P:Pm n p)(S:Sor X p k):∀ (f l r:Nat),l<=r->r<=k->r<=l+f->(∀ i,i<l->O.kle (Kp X p i) (Kp X p k))->(∀ i,r<=i->i<k->O.klt (Kp X p k) (Kp X p i)) ->
  Tr n (cO X) (λ m=>m<=k/\(∀ i,i<m->O.kle (Kp X p i) (Kp X p k))/\∀ i,m<=i->i<k->O.klt (Kp X p k) (Kp X p i)) (kas_place p k f l r)
 | 0,l,r,h1,h2,h3,h4,h5=>by
  have:l=r:=by lia
  subst this;exact⟨h2,h4,h5⟩
 | f+1,l,r,h1,h2,h3,h4,h5=>by
  show Tr n (cO X) _ (if l≥r then .ret l else _);by_cases h:l≥r
  ·rw[ae h]
   have:l=r:=by lia
   subst this;exact⟨h2,h4,h5⟩
  ·rw[ag h]
   refine⟨P.lt _,P.lt _,?_⟩;show Tr n (cO X) _ (if O.blt (Kp X p k) (Kp X p ((l+r) / 2))=V0 then _ else _);by_cases hc:O.blt (Kp X p k) (Kp X p ((l+r) / 2))=V0
   ·rw[ae hc];refine z3 P S f l ((l+r) / 2) (by lia) (by lia) (by lia) h4 λ i a b=>?_;exact KeyOrd.klt_of_klt_of_kle hc (S _ i a b)
   ·rw[ag hc];refine z3 P S f ((l+r) / 2+1) r (by lia) h2 (by lia) (λ i a=>?_) h5;exact eK (S i _ (by lia) (by lia)) (fq hc)
theorem NO:∀ (f:Nat) (p:Array Nat) (k:Nat),Pm n p->Sor X p k->k+f=n->Tr n (cO X) (λ p'=>Pm n p'/\Sor X p' n) (kas_bin f p k)
 | 0,p,k,P,S,h=>by
  have:k=n:=by lia
  subst this;exact⟨P,S⟩
 | f+1,p,k,P,S,h=>by
  refine Tr.bnd (λ l ⟨l1,l2,l3⟩=>?_) _ (z3 P S k 0 k (aZ _) (aq _) (by lia) (λ i hi=>absurd hi (dM _)) λ i a b=>by lia);refine NO f _ (k+1) (P.perm (bubble_perm _ _ _)) (λ i j hij hj=>?_) (by lia);have hk:k<p.size:=by rw[P.size];lia
  rw[Iy hk (by lia),Iy hk (by lia),show k-(k-l)=l by lia];by_cases e1:i=l
  ·rw[ae e1]
   by_cases e2:j=l
   ·rw[ae e2];exact dN _
   ·rw[ag e2,ae (by lia)];exact dR (l3 (j-1) (by lia) (by lia))
  ·rw[ag e1]
   by_cases e2:j=l
   ·rw[ae e2,ag (by lia)];exact l2 i (by lia)
   ·rw[ag e2]
    by_cases e3:l<i/\i<=k
    ·rw[ae e3,ae (by lia)];exact S _ _ (by lia) (by lia)
    ·rw[ag e3]
     by_cases e4:l<j/\j<=k
     ·rw[ae e4]
      by_cases e5:j-1<l
      ·lia
      ·exact eK (l2 i (by lia)) (dR (l3 (j-1) (by lia) (by lia)))
     ·rw[ag e4];exact S i j hij (by lia)
theorem Pn (hn:0<n):Tr n (cO X) (λ p=>Pm n p/\Sor X p n) (kas_sort n):=by
 have P0:Pm n (List.toArray (V2 n)):=⟨hn,gU _⟩;refine Tr.bnd (λ r ⟨P,S,r1,r2⟩=>?_) _ (LO P0);by_cases h:r.1<n
 ·rw[ae h,show max r.1 1=r.1 by lia];exact NO _ _ _ P S (by lia)
 ·rw[ag h]
  have:r.1=n:=by lia
  exact⟨P,this▸S⟩
end
open PySem.Spec
theorem Fg {α:Type}(next:Nat->Nat):∀ (fuel k:Nat) (left:List α) (out:Array α),fuel=left.length->List.Perm (pickOrder.go next fuel k left out).toList (out.toList++left)
 | 0,k,left,out,h=>by have:left=[]:=d3.mp h.symm;subst this;unfold pickOrder.go;simp
 | fuel+1,k,left,out,h=>by
  unfold pickOrder.go;have hl:next k % left.length<left.length:=fw _ (by lia)
  have e:left[next k % left.length]?=kb left[next k % left.length]:=by simp[hl]
  rw[e];dsimp only;refine(Fg next fuel (k+1) _ _ (by rw[List.length_eraseIdx_of_lt hl];lia)).trans ?_;rw[gw,dP];refine List.Perm.append_left _ ?_;have e2:left=left.take (next k % left.length)++left[next k % left.length]::left.drop (next k % left.length+1):=by rw[<-cR hl,List.take_append_drop]
  have e3:left.eraseIdx (next k % left.length)=left.take (next k % left.length)++left.drop (next k % left.length+1):=List.eraseIdx_eq_take_drop_succ _ _;rw[e3];refine List.Perm.trans ?_ (List.Perm.of_eq e2.symm);rw[List.singleton_append];exact List.perm_middle.symm
theorem GF {α:Type}(next:Nat->Nat)(xs:Array α):List.Perm (pickOrder next xs).toList xs.toList:=by
 unfold pickOrder;have:=Fg next xs.size 0 xs.toList #[] (by simp)
 simpa using this
theorem wO {xs:Array Nat}(R:Ri xs){j r:Nat}(h:Bel xs j r):V5 xs j=r:=by
 obtain⟨a1,a2,a3⟩:=wG R j;obtain⟨b1,b2,b3⟩:=h;rcases gu (V5 xs j) r with q | q | q
 ·have hl:V5 xs j<xs.size:=by lia
  have e:xs[V5 xs j]?=kb xs[V5 xs j]:=by simp[hl]
  have h1:=b2 _ _ q e;have h2:=a3 _ _ (aq _) e;lia
 ·exact q
 ·have hl:r<xs.size:=by lia
  have e:xs[r]?=kb xs[r]:=by simp[hl]
  have h1:=a2 _ _ q e;have h2:=b3 _ _ (aq _) e;lia
theorem DA {xs:Array Nat}(R:Ri xs){i j:Nat}(e:xs[i]?=kb j):V5 xs (j+1)=i+1:=by
 have hi:=(cf.mp e).1;refine wO R ⟨hi,λ k x hk ek=>?_,λ k x hk ek=>R i k j x hk e ek⟩;by_cases q:k=i
 ·subst q;rw[e]at ek;cases ek;lia
 ·have:=R k i x j (by lia) ek e;lia
theorem DB {xs:Array Nat}(R:Ri xs):V5 xs 0=0:=wO R ⟨aZ _,λ k x hk=>absurd hk (dM _),λ k x _ _=>aZ _⟩
theorem kD:Slot "set_iterator" "__next__" "set_iterator.__next__" :=
 .of (owner:="set_iterator") (n:="__next__") (by rw[typeLookup_type,builtinLookup_eq_fast];kernel_rfl) (by decide +kernel) (by decide +kernel) (by decide +kernel) (by first | exact .inl (by decide +kernel) | exact .inr (by decide +kernel)) (by rw[isSubtype_type];kernel_rfl)
theorem sy:Slot "set_iterator" "__iter__" "set_iterator.__iter__" :=
 .of (owner:="set_iterator") (n:="__iter__") (by rw[typeLookup_type,builtinLookup_eq_fast];kernel_rfl) (by decide +kernel) (by decide +kernel) (by decide +kernel) (by first | exact .inl (by decide +kernel) | exact .inr (by decide +kernel)) (by rw[isSubtype_type];kernel_rfl)
theorem q_:entryFor table "set_iterator.__next__"=kb Builtin.«set_iterator.__next__»:=entryFor_of_tree (by kernel_rfl)
theorem yq:entryFor table "set_iterator.__iter__"=kb Builtin.«dict_keyiterator.__iter__» :=
 entryFor_alias (id':="dict_keyiterator.__iter__") (by kernel_rfl) rfl (by decide +kernel)
  (by kernel_rfl)
theorem yr:entryFor table "set.__iter__"=kb Builtin.«frozenset.__iter__» :=
 entryFor_alias (id':="frozenset.__iter__") (by kernel_rfl) rfl (by decide +kernel) (by kernel_rfl)
theorem Bv:Manifest.owners.lookup (String.ofList ['r','o','t','a','r','e','t','i','_','t','e','s'].reverse)=kb Manifest.sig_set_iterator:=by kernel_rfl
theorem sA (a:g_):argsOk "set_iterator.__next__" ⟨[a],[]⟩:=by
 unfold argsOk;rw[signature?_of (id:="set_iterator.__next__") (n:=['_','_','t','x','e','n','_','_']) (o:=['r','o','t','a','r','e','t','i','_','t','e','s']) (by kernel_rfl) Bv]
 kernel_rfl
theorem z4 (a:g_):argsOk "set_iterator.__iter__" ⟨[a],[]⟩:=by
 unfold argsOk;rw[signature?_of (id:="set_iterator.__iter__") (n:=['_','_','r','e','t','i','_','_']) (o:=['r','o','t','a','r','e','t','i','_','t','e','s']) (by kernel_rfl) Bv]
 kernel_rfl
section
variable {prog:Program}{w:World}{A:Around}{E:g0}{s:hE}{S I:Addr}{oS:Obj}{es:Array (Int×g_)}{ep:Nat}{t:SetTable}
def seen (w:World)(S:Addr)(ep:Nat)(es:Array (Int×g_)):Array (Int×g_):=if w.params.followText "set-order"=V0 then pickOrder (w.params.setOrder S ep) es else es
theorem t_ (w:World)(S:Addr)(ep:Nat)(es:Array (Int×g_)):List.Perm (seen w S ep es).toList es.toList:=by
 unfold seen;split
 ·exact GF _ _
 ·exact gU _
def SIt (w:World)(S I:Addr)(n ep:Nat)(t:SetTable)(i:Nat)(h:Heap):Prop:=∃ (o:Obj) (slot:Nat),h.get? I=kb o/\o.cls=.type "set_iterator"/\o.data=.fields #[rawInt slot,rawInt i,.ref S,rawInt n,rawInt ep]/\(w.params.followText "set-order"=V1->V5 t.place slot=i)
theorem z5 {Q:Bool->hE->Prop}(h:Q (w.params.followText "set-order") s):wpAny (model prog w) A setsByText Q E s:=by unfold setsByText;exact aa (fy (ah h))
theorem Bw {Q:g6 (g_×Nat)->hE->Prop}{i slot:Nat}(hS:s.heap.get? S=kb oS)(hd:oS.data=.set es ep t)(T:TOk t (es.toList.map (·.1)))(hp:t.plain=V0)(hl:t.led=!(w.params.followText "set-order"))
  (hsl:w.params.followText "set-order"=V1->V5 t.place slot=i) (h0:(seen w S ep es)[i]?=My->Q My s)
  (h1:∀ hv v nx,(seen w S ep es)[i]?=kb (hv,v)->(w.params.followText "set-order"=V1->V5 t.place nx=i+1)->Q (kb (v,nx)) s):wpAny (model prog w) A (setNext S slot i ep) Q E s:=by
 have hfit:=fits_of T (n:=es.size) (by simp);unfold setNext;refine aa (bZ hS hd hfit ?_);dsimp only;refine aa (z5 ?_);by_cases hb:w.params.followText "set-order"=V0
 ·have sd:seen w S ep es=pickOrder (w.params.setOrder S ep) es:=by unfold seen;rw[ae hb]
  rw[ae hb];simp only[bne_self_eq_false,aS,bP];unfold setWalk;refine aa (aa (bZ hS hd hfit ?_));dsimp only;refine aa (z5 ?_);rw[ae hb];refine aa (fy (ah ?_));refine ah ?_;show Q (((pickOrder (w.params.setOrder S ep) es)[i]?).map λ e=>(e.2,slot)) s;rw[<-sd];cases e:(seen w S ep es)[i]? with
  | none=>exact h0 e
  | some v=>exact h1 v.1 v.2 slot e λ z=>by rw[hb]at z;cases z
 ·have hb':w.params.followText "set-order"=V1:=by simpa using hb
  have sd:seen w S ep es=es:=by unfold seen;rw[ag hb]
  rw[ag hb];have hdr:∀ {α:Type} {a b:Sem α} {R:α->hE->Prop},wpAny (model prog w) A b R E s->wpAny (model prog w) A (if (!t.plain&&decide (es.size>1))=V0 then a else b) R E s:=λ hb=>by rw[hp];simpa using hb
  refine hdr ?_;have hml:∀ {α:Type} {b:Unit->Sem α} {R:α->hE->Prop},wpAny (model prog w) A (b ()) R E s->wpAny (model prog w) A ((if (!t.led&&!es.isEmpty)=V0 then unsupported "set:maker-not-led" else pure ())>>=b) R E s:=λ hb=>by rw[hl,hb'];simp only[fY,di,gS,aS,bP];exact aa (ah hb)
  refine hml ?_;rw[hsl hb'];refine ah ?_;rw[sd]at h0 h1;have hpl:t.place.size=es.size:=by have:=T.sz;simpa using this
  by_cases hi:i<es.size
  ·have e1:es[i]?=kb es[i]:=by simp[hi]
   have e2:t.place[i]?=kb (t.place[i]'(by lia)):=by simp[show i<t.place.size by lia]
   rw[e1,e2];exact h1 es[i].1 es[i].2 _ e1 λ _=>DA T.ri e2
  ·have e1:es[i]?=My:=d9 (by lia);rw[e1];exact h0 e1
theorem z6 {i n:Nat}(x:SIt w S I n ep t i s.heap):s.TypeIs (.ref I) "set_iterator":=let ⟨o,_,ho,hc,_⟩:=x;⟨o,ho,hc⟩
theorem pS {Q:Array (Int×g_)->hE->Prop}(hS:s.heap.get? S=kb oS)(hd:oS.data=.set es ep t)(T:TOk t (es.toList.map (·.1)))(h:Q es s):wpAny (model prog w) A (setEntries S) Q E s:=by unfold setEntries;exact aa (bZ hS hd (fits_of T (by simp)) (ah h))
theorem LP {i:Nat}{hv:Int}{v:g_}{Q:g6 g_->hE->Prop}(x:SIt w S I es.size ep t i s.heap)(hS:s.heap.get? S=kb oS)(hd:oS.data=.set es ep t)(T:TOk t (es.toList.map (·.1)))(hp:t.plain=V0)(hl:t.led=!(w.params.followText "set-order"))
  (hx:(seen w S ep es)[i]?=kb (hv,v)) (hQ:∀ h',SIt w S I es.size ep t (i+1) h'->Heap.SameBut I s.heap h'->Q (kb v) {s with heap:=h'}):wpAny (model prog w) A (pyNext (.ref I)) Q E s:=by
 have hT:=z6 x;obtain⟨o,slot,ho,hc,hdd,hsl⟩:=x;unfold pyNext;refine aa (eS (bS (name:=Str.ofString "__next__") hT kD (bV kD hT q_ ?_ (sA _))));unfold Builtin.«set_iterator.__next__»;refine aa (ah ?_);refine aa (wpAny_fieldsOf ho hdd ?_);show wpAny _ _ (setEntries S>>=_) _ _ s;refine aa (pS hS hd T ?_);simp only[bne_self_eq_false,aS,bP];show wpAny _ _ (setNext S slot i ep>>=_) _ _ s;refine aa (Bw hS hd T hp hl hsl (λ z=>by rw[hx]at z;cases z) λ hv' v' nx e1 e2=>?_);rw[hx]at e1;cases e1;dsimp only;refine aa (fh ho hdd (by simp) ?_);have ho1:=dE (Obj.mapFields (·.setIfInBounds 0 (rawInt nx))) ho (ft (dw hdd _));have hd1:=dw hdd (·.setIfInBounds 0 (rawInt nx));refine aa (fh (s:={s with heap:=s.heap.update I (Obj.mapFields (·.setIfInBounds 0 (rawInt nx)))}) ho1 hd1 (by simp) ?_);have ho2:=dE (Obj.mapFields (·.setIfInBounds 1 (rawInt ((i:Int)+1)))) ho1 (ft (dw hd1 _));refine ah ⟨_,rfl,ah (hQ _ ⟨_,nx,ho2,?_,?_,e2⟩ ((cN ..).trans (cN ..)))⟩
 ·rw[gx,gx];exact hc
 ·rw[dw hd1];simp[rawInt]
theorem Po {i:Nat}{Q:g6 g_->hE->Prop}(hh:A.handled=My)(x:SIt w S I es.size ep t i s.heap)(hS:s.heap.get? S=kb oS)(hd:oS.data=.set es ep t)(T:TOk t (es.toList.map (·.1)))(hp:t.plain=V0)(hl:t.led=!(w.params.followText "set-order"))
  (hx:(seen w S ep es)[i]?=My) (hQ:∀ h',Heap.ExtBut I s.heap h'->Q My {s with heap:=h'}):wpAny (model prog w) A (pyNext (.ref I)) Q E s:=by
 have hT:=z6 x;obtain⟨o,slot,ho,hc,hdd,hsl⟩:=x;unfold pyNext;refine aa (eS (bS (name:=Str.ofString "__next__") hT kD (bV kD hT q_ ?_ (sA _))));unfold Builtin.«set_iterator.__next__»;refine aa (ah ?_);refine aa (wpAny_fieldsOf ho hdd ?_);show wpAny _ _ (setEntries S>>=_) _ _ s;refine aa (pS hS hd T ?_);simp only[bne_self_eq_false,aS,bP];show wpAny _ _ (setNext S slot i ep>>=_) _ _ s;refine aa (Bw hS hd T hp hl hsl (λ _=>?_) λ hv' v' nx e1 e2=>by rw[hx]at e1;cases e1);dsimp only;refine aa (fh ho hdd (by simp) ?_);show wpAny _ _ (newExc (.type "StopIteration") []>>=_) _ _ _;refine aa ?_;simp only[newExc,newTuple];refine aa (bL ?_ (by size_fits));refine aa (m:=firstArgMember _ _) (wpAny_of_eq (a:=Value.none) (by first | rfl | (simp only[firstArgMember];rfl)) ?_);refine bL ?_ (by size_fits);simp only[raiseNew];refine aa (wpAny_handled ?_);rw[show A.in1.handled=My from hh];refine aa (ah (wpAny_throw ?_));refine aa (wpAny_isInstance (T:="StopIteration") (b:=V0) ⟨_,aK _ rfl,rfl⟩ isSubtype_stop ?_);exact ah (hQ _ (((cN ..).extBut.push _).push _))
theorem IA (hh:A.handled=My)(hne:S≠I)(hd:oS.data=.set es ep t)(T:TOk t (es.toList.map (·.1)))(hp:t.plain=V0)(hl:t.led=!(w.params.followText "set-order")) :
  Walks prog w A I [I,S] [I] es.size (λ i v=>∃ hv,(seen w S ep es)[i]?=kb (hv,v)) (λ i h=>SIt w S I es.size ep t i h/\h.get? S=kb oS) where
 sub:=λ b hb=>by simp at hb;simp[hb]
 frame:=λ i h h' st hk=>⟨let ⟨o,sl,ho,r⟩:=st.1;⟨o,sl,hk I (by simp) o ho,r⟩,hk S (by simp) oS st.2⟩
 item:=λ i s Q E hi st hQ=>by
  have hz:(seen w S ep es).size=es.size:=by have:=(t_ w S ep es).length_eq;simpa using this
  have e:(seen w S ep es)[i]?=kb (seen w S ep es)[i]:=by simp[hz,hi]
  exact LP st.1 st.2 hd T hp hl (hv:=(seen w S ep es)[i].1) (v:=(seen w S ep es)[i].2) e λ h' st' sb =>hQ _ h' s.toks ⟨_,e⟩ ⟨st',(sb.2 S hne).trans st.2⟩ λ b o hb q=>(sb.2 b (by simpa using hb)).trans q
 done:=λ s Q E st hQ=>by
  have hz:(seen w S ep es).size=es.size:=by have:=(t_ w S ep es).length_eq;simpa using this
  exact Po hh st.1 st.2 hd T hp hl (d9 (by lia)) λ h' eb=>hQ h' s.toks λ b o hb q=>eb b o (by simpa using hb) q
 self:=λ i s Q E st hQ=>by have hT:=z6 st.1;refine wpAny_pyIter_slot hT sy (bV sy hT yq ?_ (z4 _));unfold Builtin.«dict_keyiterator.__iter__»;refine aa (ah ?_);exact ah ⟨_,rfl,"set_iterator",_,hT,kD.lookup,hQ⟩
end
end Tb
namespace L2
open PySem PySem.Spec PyProof.Rows
def DC (env:Env):List (Str×NameKind)->List (Str×Addr)->List (Str×Addr)
 | [],cs=>cs
 | (n,k)::r,cs=>DC env r (if k==.free then (n,(env.cells.lookup n).getD 0)::cs else cs)
def qU (scope:Scope)(env:Env):List (Str×Addr):=DC env scope.names []
theorem rA {scope:Scope}{env:Env}(h:∀ x∈scope.names,x.2=.free->∃ c,env.cells.lookup x.1=kb c):closureFor scope env=pure (qU scope env):=by
 unfold closureFor qU;generalize scope.names=l at h ⊢;generalize hcs:([]:List (Str×Addr))=cs;clear hcs;induction l generalizing cs with
 | nil=>simp only[DC,fZ,pure_bind]
 | cons a r ih =>
  obtain⟨n,k⟩:=a;have ih':=λ cs=>ih (λ x hx=>h x (ar _ hx)) cs;simp only[eW,DC];by_cases e:k=.free
  ·subst e;obtain⟨c,hc⟩:=h (n,.free) av rfl;have hc:env.cells.lookup n=kb c:=hc;simp only[cellOf,hc,beq_self_eq_true,cJ,eG,pure_bind];exact ih' _
  ·have e':(k==NameKind.free)=V1:=beq_eq_false_iff_ne.mpr e;simp only[e',aS,bP,pure_bind];exact ih' _
theorem Bx {env:Env}:∀ (l:List (Str×NameKind)) (cs:List (Str×Addr)),(∀ x∈l,x.2=.free->∃ c,env.cells.lookup x.1=kb c)->(∀ x c,cs.lookup x=kb c->env.cells.lookup x=kb c) ->
  ∀ x c,(DC env l cs).lookup x=kb c->env.cells.lookup x=kb c
 | [],_,_,h2,x,c,e=>h2 x c e
 | (n,k)::r,cs,h1,h2,x,c,e=>by
  refine Bx r _ (λ y hy=>h1 y (ar _ hy)) (λ y d q=>?_) x c e;by_cases hk:k=.free
  ·subst hk
   obtain⟨d',hd⟩:=h1 (n,.free) av rfl;have hd:env.cells.lookup n=kb d':=hd;rw[ae (by decide),hd,eG,bf]at q;cases hx:y==n with
   | true =>
    rw[hx]at q;have:y=n:=by simpa using hx
    subst this;cases q;exact hd
   | false=>rw[hx]at q;exact h2 y d q
  ·rw[ag (by simpa using hk)]at q;exact h2 y d q
theorem zb {env:Env}:∀ (l:List (Str×NameKind)) (cs:List (Str×Addr)) (x:Str),(∃ c,cs.lookup x=kb c)->∃ c,(DC env l cs).lookup x=kb c
 | [],_,_,h=>h
 | (n,k)::r,cs,x,h=>by
  refine zb r _ x ?_;split
  ·rw[bf]
   cases hx:x==n with
   | true=>exact⟨_,rfl⟩
   | false=>exact h
  ·exact h
theorem By {env:Env}:∀ (l:List (Str×NameKind)) (cs:List (Str×Addr)) (x:Str),(x,NameKind.free)∈l->∃ c,(DC env l cs).lookup x=kb c
 | (n,k)::r,cs,x,h=>by
  rcases aG.mp h with e | h
  ·have e1:x=n:=cG Prod.fst e;have e2:NameKind.free=k:=cG Prod.snd e;refine zb r _ x ?_;rw[<-e2,<-e1,ae (by decide),bf];simp
  ·exact By r _ x h
theorem pT {env:Env}:∀ {names:List (Str×NameKind)} {x:Str} {k:NameKind},
  (names.map λ(n,k)=>if (k==NameKind.free&&env.scope.kind==.function&&env.kindOf n==kb .cell) then (n,NameKind.cell) else (n,k)).lookup x=kb k ->
  ∃ k0,(x,k0)∈names/\names.lookup x=kb k0/\(k=k0\/(k0=.free/\k=.cell))
 | [],_,_,h=>by simp at h
 | (n,k')::r,x,k,h=>by
  have h:List.lookup x ((if (k'==NameKind.free&&env.scope.kind==.function&&env.kindOf n==kb .cell)=V0 then (n,NameKind.cell) else (n,k'))::_)=_:=h;cases hx:x==n with
  | true =>
   have e:x=n:=by simpa using hx
   subst e;by_cases hc:(k'==NameKind.free&&env.scope.kind==.function&&env.kindOf x==kb .cell)=V0
   ·rw[ae hc,bf,hx]at h;simp at hc;cases h;exact⟨k',av,by rw[bf,hx],.inr ⟨hc.1.1,rfl⟩⟩
   ·rw[ag hc,bf,hx]at h;cases h;exact⟨k',av,by rw[bf,hx],.inl rfl⟩
  | false =>
   have h':List.lookup x (r.map λ(n,k)=>if (k==NameKind.free&&env.scope.kind==.function&&env.kindOf n==kb .cell) then (n,NameKind.cell) else (n,k))=kb k:=by
    by_cases hc:(k'==NameKind.free&&env.scope.kind==.function&&env.kindOf n==kb .cell)=V0
    ·rw[ae hc,bf,hx]at h;exact h
    ·rw[ag hc,bf,hx]at h;exact h
   obtain⟨k0,m0,l0,o0⟩:=pT h';exact⟨k0,ar _ m0,by rw[bf,hx];exact l0,o0⟩
theorem ny {env:Env}:∀ {names:List (Str×NameKind)} {x:Str},names.lookup x=kb .free ->
  (names.map λ(n,k)=>if (k==NameKind.free&&env.scope.kind==.function&&env.kindOf n==kb .cell) then (n,NameKind.cell) else (n,k)).lookup x=kb .free \/
  (names.map λ(n,k)=>if (k==NameKind.free&&env.scope.kind==.function&&env.kindOf n==kb .cell) then (n,NameKind.cell) else (n,k)).lookup x=kb .cell
 | [],_,h=>by simp at h
 | (n,k')::r,x,h=>by
  show List.lookup x ((if (k'==NameKind.free&&env.scope.kind==.function&&env.kindOf n==kb .cell)=V0 then (n,NameKind.cell) else (n,k'))::_)=_\/List.lookup x ((if (k'==NameKind.free&&env.scope.kind==.function&&env.kindOf n==kb .cell)=V0 then (n,NameKind.cell) else (n,k'))::_)=_;cases hx:x==n with
  | true =>
   rw[bf,hx]at h;cases h;by_cases hc:(NameKind.free==NameKind.free&&env.scope.kind==.function&&env.kindOf n==kb .cell)=V0
   ·rw[ae hc,bf,hx];exact .inr rfl
   ·rw[ag hc,bf,hx];exact .inl rfl
  | false =>
   rw[bf,hx]at h;by_cases hc:(k'==NameKind.free&&env.scope.kind==.function&&env.kindOf n==kb .cell)=V0
   ·rw[ae hc,bf,hx];exact ny h
   ·rw[ag hc,bf,hx];exact ny h
structure kq (X:Cx)(scope:Scope)(own fr:List Str)(ix:List Nat):Prop where
 kind:scope.kind=.function
 loc:∀ x∈scope.names,x.2=.local->scope.names.lookup x.1=kb .local
 DD:∀ x∈scope.names,x.2≠.cell
 free:∀ x∈scope.names,x.2=.free->X.env.kindOf x.1=kb .cell\/X.env.kindOf x.1=kb .free
 VP:∀ x∈own,scope.names.lookup x=kb .local
 fr':∀ x∈fr,scope.names.lookup x=kb .free
 ix':ix.map (λ i=>X.N[i]?)=fr.map kb
 nd:(own++fr).Nodup
def Cx.comp (X:Cx)(N:List Str)(scope:Scope)(C:Addr)(s:hE)(H:Hp)(fp:List Addr):Cx :=
 {X with N:=N,s₀:=s,H₀:=H,env:=compEnvC scope (qU scope X.env) C X.env,outer:=X.stack,stack:=X.stack,ex:=fp,fn:=λ _=>V1,pn:=[],xe:=λ _ _=>False}
def jo (own:List Str)(ix:List Nat)(σ:St):St:=own.map (λ _=>My)++ix.map λ i=>(σ[i]?).getD My
def PF (X:Cx)(ifs:List Expr)(t:TT):Prop :=
 ∀ (pins:hJ) (s:hE) (σ:St) (H:Hp) (Q:Bool->Hp->Prop),Inv X pins σ H s->t σ H Q ->
  wpAny (model X.prog X.w) X.A (forIn ifs V0 λ c r=>if r=V0 then do let ok<-isTrue c X.env (eval c X.env);pure (ForInStep.yield ok) else pure (ForInStep.yield r)) (TP X pins σ Q) X.xe s
def IB:TT:=λ _ H Q=>Q V0 H
theorem DF {X:Cx}:PF X [] IB:=λ _ _ _ H _ I h=>wpAny_tests_nil ⟨H,I,h⟩
theorem Pp {X:Cx}{c:Expr}{t:TT}(h:PT X c t):PF X [c] t:=λ pins s σ H Q I q=>wpAny_tests_one (h pins s σ H Q I q)
theorem z7 {prog:Program}{w:World}{A:Around}{R:Result->hE->Prop}{s:hE}{elt target iter:Expr}{ifs:List Expr}{scope:Scope}{pos:Pos}{it acc:g_}{env:Env}(I:Nat->hE->Prop)
  (turn:∀ n s,I n s->wpAny (model prog w) A (pyNext it) (λ r s₁=>match r with
   | none=>R (.ok .next) s₁
   | some v=>wpAny (model prog w) A (letOwnedTupleGo target it v) (λ _ s₁'=>wpAny (model prog w) A (assign target env v) (λ _ s₂ =>
     wpAny (model prog w) A (forIn ifs V0 λ c r=>if r=V0 then do let ok<-isTrue c env (eval c env);pure (ForInStep.yield ok) else pure (ForInStep.yield r)) (λ ok s₃ =>
      if ok=V0 then wpAny (model prog w) A (eval elt env) (λ x s₄ =>wpAny (model prog w) A (call (.builtin "list.append") [acc,x]) (λ _ s₅=>∃ m,m<n/\I m s₅) (λ _ _=>False) s₄) (λ _ _=>False) s₃
      else ∃ m,m<n/\I m s₃) (λ _ _=>False) s₂) (λ _ _=>False) s₁') (λ _ _=>False) s₁) (λ _ _=>False) s)
  (n:Nat) (h:I n s) :
  codeAny (model prog w) A (.compLoop (.ListComp elt [⟨target,iter,ifs,0⟩] scope pos) 0 it acc env) R s:=by
 refine codeAny_loop rfl I (λ n s hI=>?_) n h;show wpAny _ A ((compTurn (.ListComp elt [⟨target,iter,ifs,0⟩] scope pos) 0 it acc env).onRaise (λ x=>do noteFrame x env;theTreesLotGoes x)) _ _ s;refine wpAny_noted ?_;rw[compTurn_list];have nox:∀ {α:Type} {t:Sem α} {Q Q':α->hE->Prop} {E:g0} {s:hE},wpAny (model prog w) A t Q (λ _ _=>False) s->(∀ a s,Q a s->Q' a s)->wpAny (model prog w) A t Q' E s:=λ h hq=>cv h hq λ _ _ z=>z.elim;refine aa (cU (aa (nox (turn n s hI) λ r s₁ h₁=>?_)));cases r with
 | none=>exact ah h₁
 | some v =>
  refine aa (nox h₁ λ _ s₁' h₁'=>aa (nox h₁' λ _ s₂ h₂=>aa (nox h₂ λ ok s₃ h₃=>?_)));cases ok with
  | false=>exact ah ⟨rfl,h₃⟩
  | true=>exact aa (aa (nox h₃ λ x s₄ h₄=>aa (nox h₄ λ _ s₅ h₅=>ah (ah ⟨rfl,h₅⟩))))
section
variable {X:Cx}{pins:hJ}{σ:St}{H:Hp}{s:hE}{own fr:List Str}{ix:List Nat}{scope:Scope}
theorem kq.cells (S:kq X scope own fr ix)(ok:X.Ok):∀ x∈scope.names,x.2=.free->∃ c,X.env.cells.lookup x.1=kb c:=λ x hx e=>ok.has x.1 (S.free x hx e)
theorem kq.sub (S:kq X scope own fr ix)(ok:X.Ok):∀ x c,(qU scope X.env).lookup x=kb c->X.env.cells.lookup x=kb c :=
 Bx scope.names [] (S.cells ok) (λ x c e=>by simp at e)
theorem kq.RL (S:kq X scope own fr ix){x:Str}(h:(relabel scope X.env).names.lookup x=kb .cell\/(relabel scope X.env).names.lookup x=kb .free):∃ c,(qU scope X.env).lookup x=kb c:=by
 have go:∀ k,(k=.cell\/k=.free)->(relabel scope X.env).names.lookup x=kb k->∃ c,(qU scope X.env).lookup x=kb c:=λ k hk e=>by
  obtain⟨k0,m0,l0,o0⟩:=pT e;have:k0=.free:=by
   rcases o0 with o0 | o0
   ·rcases hk with z | z
    ·exact absurd (o0▸z) (S.DD (x,k0) m0)
    ·exact o0▸z
   ·exact o0.1
  subst this;exact By scope.names [] x m0
 rcases h with h | h
 ·exact go _ (.inl rfl) h
 ·exact go _ (.inr rfl) h
theorem Inv.enter (I:Inv X pins σ H s)(S:kq X scope own fr ix){fp:List Addr}(hf:∀ b∈fp,pO X pins H b)(hlt:∀ b∈fp,b<s.heap.objs.size){C:Addr}{h':Heap}{tk:Nat}{m:gZ}(hC:s.heap.objs.size<=C)(hns:h'.Ns C m)
  (k:∀ b o,s.heap.get? b=kb o->h'.get? b=kb o):Inv (X.comp (own++fr) scope C s H fp) [] (jo own ix σ) H {s with heap:=h',toks:=tk}:=by
 have subS:∀ b,b∈frs X.stack->b∈X.env.locals::X.fs:=I.tR;have cl:=S.sub I.ok;have cellAt:∀ x c,(qU scope X.env).lookup x=kb c->∃ v,h'.IsCell c v:=λ x c e=>by obtain⟨v,o,ho,hd⟩:=I.cell x c (cl x c e);exact⟨v,o,k c o ho,hd⟩
 refine⟨⟨I.ok.mod,S.kind,I.ok.glob,I.ok.blt,hC,λ x y c h1 h2=>I.ok.inj x y c (cl x c h1) (cl y c h2),λ x hx=>S.RL hx,λ x c h=>absurd h (by simp[Cx.comp]),I.ok.hd,I.ok.frames,.inl rfl,λ b hb=>⟨?_,λ x c e=>(hf b hb).2.2.2.2.1 x c (cl x c e)⟩,I.bs,bg I.ok.bsz I.sz,λ b o e hb=>?_,λ b hb z=>?_,I.stack,I.vK⟩,
  rfl,I.bare,Un.kept k,⟨m,hns,λ i x v e1 e2 e3=>?_⟩,cellAt,I.hok.fresh hC,λ x c e=>I.lY x c (cl x c e),λ p hp=>absurd hp (by simp[Cx.comp]),I.hok.kept k,?_⟩
 ·exact aU (aB (hlt b hb) hC)
 ·rcases (hf b hb).2.2.2.1 with z | z
  ·exact I.ok.C6 b o e z
  ·exact absurd (aB (aw e) (bg I.ok.bsz z)) (aX _)
 ·rcases aG.mp (subS b z) with q | q
  ·exact(hf b hb).2.1 q
  ·exact(hf b hb).2.2.1 q
 ·have e1:(own++fr)[i]?=kb x:=e1
  have hi:own.length<=i:=by
   refine fv λ hlt'=>?_;unfold jo at e2;rw[br (by simpa using hlt'),aD]at e2;cases q:own[i]? with
   | none=>rw[q]at e2;cases e2
   | some a=>rw[q]at e2;cases e2
  rw[bE hi]at e1;unfold jo at e2;rw[bE (by simpa using hi),aD,ak]at e2;cases q:ix[i-own.length]? with
  | none=>rw[q]at e2;cases e2
  | some i' =>
   rw[q]at e2;have e2:(σ[i']?).getD My=kb v:=aF e2;have e3':σ[i']?=kb (kb v):=by
    cases r:σ[i']? with
    | none=>rw[r]at e2;cases e2
    | some w=>rw[r]at e2;exact cG kb e2
   have eN:X.N[i']?=kb x:=by have:=cG (λ l=>l[i-own.length]?) S.ix';simp only[aD,q,e1,cq]at this;exact aF this
   have hfr:=S.fr' x (bc e1);have hk:=S.free (x,.free) (c_ hfr) rfl;obtain⟨m0,_,hl0⟩:=I.loc;obtain⟨u,ru,lk⟩:=hl0 i' x v eN e3' (.inr hk);refine⟨u,ru,.inr ⟨(ny (env:=X.env) hfr).symm,?_⟩⟩;rcases lk with⟨hk',_⟩ | ⟨_,c,hc,hcell⟩
   ·rcases hk with hk | hk<;>(rw[hk']at hk;cases hk)
   ·obtain⟨c',hc'⟩:=S.RL (x:=x) (ny (env:=X.env) hfr).symm;have:=cl x c' hc';rw[hc]at this;cases this;obtain⟨o,ho,hd⟩:=hcell;exact⟨c,hc',o,k c o ho,hd⟩
 ·show(jo own ix σ).length=(own++fr).length;have:=cG List.length S.ix';simp only[ak]at this;simp[jo,this]
theorem Inv.zd {D:Addr}{o:HO}(I:Inv X pins σ H s)(hn:H D=My)(hs:X.s₀.heap.objs.size<=D)(hL:D≠X.env.locals)(hc:∀ x c,X.env.cells.lookup x=kb c->c≠D)(hp:∀ p∈X.pn++pins,p.1≠D)
  (new:jO X.prog X.w (upd H D o) s.heap D o):Inv X pins σ (upd H D o) s:=by
 have ne:∀ b u,H b=kb u->b≠D:=λ b u e z=>by rw[z,hn]at e;cases e
 refine⟨I.ok,I.os,I.bare,⟨I.base.keep,I.base.slot,λ b ob e n hx=>?_,I.base.there,λ b xs e=>?_,λ b ob u e=>?_,λ b ps e=>?_⟩,I.loc,I.cell,?_,λ x c e=>?_,λ p hp'=>?_,λ b u e=>?_,I.len⟩
 ·have:b≠D:=aU (aB (aw e) hs);rw[iI this];exact I.base.free b ob e n hx
 ·have q:=I.base.pJ b xs e;rw[iI (ne _ _ q)];exact q
 ·have q:=I.base.pK b ob u e;rw[iI (ne _ _ q)];exact q
 ·obtain⟨more,q⟩:=I.base.tP b ps e;exact⟨more,by rw[iI (ne _ _ q)];exact q⟩
 ·rw[iI hL.symm];exact I.free
 ·rw[iI (hc x c e)];exact I.lY x c e
 ·obtain⟨a1,a2,a3⟩:=I.pin p hp';exact⟨a1,by rw[iI (hp p hp')];exact a2,a3⟩
 ·by_cases hb:b=D
  ·subst hb;rw[ir]at e;cases e;exact new
  ·rw[iI hb]at e;exact(I.hok b u e).vZ (λ c v _ q=>q) (λ c q=>by rw[iI (ne _ _ q)];exact q) λ c xs q=>by rw[iI (ne _ _ q)];exact q
end
def yt (n:Nat)(g:TG):Prop:=∀ x σ H (Q:St->Hp->Prop),g x σ H Q->g x σ H λ σ2 H2=>(∀ j,n<=j->σ2[j]?=σ[j]?)/\σ2.length=σ.length/\Q σ2 H2
def Fh (n:Nat)(g:TGs):Prop:=∀ xs σ H (Q:St->Hp->Prop),g xs σ H Q->g xs σ H λ σ2 H2=>(∀ j,n<=j->σ2[j]?=σ[j]?)/\σ2.length=σ.length/\Q σ2 H2
theorem jQ {n i:Nat}(h:i<n:=by decide):yt n (je i):=λ x σ H Q q=>⟨λ j hj=>bK (by lia),by simp,q⟩
theorem mC {n:Nat}:Fh n Bd:=λ xs σ H Q ⟨e,q⟩=>⟨e,λ _ _=>rfl,rfl,q⟩
theorem jy {n i:Nat}{u:TGs}(h:i<n)(h2:Fh n u):Fh n (nu (je i) u):=λ xs σ H Q ⟨v,r,e,q⟩=>by refine⟨v,r,e,?_⟩;have q2:=h2 r (σ.set i (kb v)) H Q q;have q3:=h2 r (σ.set i (kb v)) H _ q2;show u r (σ.set i (kb v)) H _;refine Eq.mp ?_ q2;congr 1;funext σ2 H2;simp only[List.length_set];refine propext ⟨λ⟨a,b,c⟩=>⟨λ j hj=>(a j hj).trans (bK (by lia)),b,c⟩,λ⟨a,b,c⟩=>⟨λ j hj=>(a j hj).trans (bK (by lia)).symm,b,c⟩⟩
theorem n4 {n k:Nat}{K:g9}{t:TGs}(h:Fh n t):yt n (Bf K k t):=λ x σ H Q ⟨a,xs,e,h1,h2,q⟩=>⟨a,xs,e,h1,h2,h xs σ H Q q⟩
def tLC (own:List Str)(ix:List Nat)(wi:TI)(g:TG)(tc:TT)(te:TE):TE:=λ σ H Q=>wi σ H λ J H1=>∃ W:Nat->Nat->List V->Hp->Prop,(∃ m,W 0 m [] H1)/\∀ i m ys H,W i m ys H ->
 (J.stop i H/\∀ p,H p=My->Q (.ref p) (upd H p (.lst ys))) \/
 (J.go i H/\ys.length<sizeLine/\∀ x H',J.yld i H x H'->g x (jo own ix σ) H' λ σ2 H2=>tc σ2 H2 λ b H3=>if b=V0 then te σ2 H3 λ y H4=>∃ m',m'<m/\W (i+1) m' (ys++[y]) H4 else ∃ m',m'<m/\W (i+1) m' ys H3)
section
variable {X:Cx}{pins:hJ}{σ:St}{H:Hp}{s:hE}{own fr:List Str}{ix:List Nat}{scope:Scope}{tg iter elt:Expr}{ifs:List Expr}{pos:Pos}{g:TG}{tc:TT}{te:TE}
theorem Bz (I:Inv X pins σ H s)(hc:X.calm=V0)(S:kq X scope own fr ix){J:It}{fp:List Addr}{it:Addr}{tn:Nat->Heap->Prop}(T:Turn X.prog X.w X.K tg J fp it tn)(st:tn 0 s.heap)(hf:∀ b∈fp,pO X pins H b)
  (hg:∀ C,PG (X.comp (own++fr) scope C s H fp) tg g) (hgo:yt own.length g) (ht:∀ C,PF (X.comp (own++fr) scope C s H fp) ifs tc) (he:∀ C,PE (X.comp (own++fr) scope C s H fp) elt te)
  {Qe:VK} {W:Nat->Nat->List V->Hp->Prop} {m0:Nat} (w0:W 0 m0 [] H) (turn:∀ i m ys H,W i m ys H ->
   (J.stop i H/\∀ p,H p=My->Qe (.ref p) (upd H p (.lst ys))) \/
   (J.go i H/\ys.length<sizeLine/\∀ x H',J.yld i H x H'->g x (jo own ix σ) H' λ σ2 H2=>tc σ2 H2 λ b H3=>if b=V0 then te σ2 H3 λ y H4=>∃ m',m'<m/\W (i+1) m' (ys++[y]) H4 else ∃ m',m'<m/\W (i+1) m' ys H3))
  {E:g0} {RR:g_->Addr->Result->hE->Prop}
  (fin:∀ D C s' H',Inv X pins σ H' s'->Qe (.ref D) H'->s.heap.objs.size<=C->H' C=My->(∃ m,s'.heap.Ns C m)->RR (.ref D) C (.ok .next) s') :
  wpAny (model X.prog X.w) X.A (newList []) (λ acc s₃=>wpAny (model X.prog X.w) X.A (newFunctionEnv scope X.env.globals (qU scope X.env) [] X.env.qual My .none (kb X.env)) (λ cenv s₄ =>codeAny (model X.prog X.w) X.A (.compStart (.ListComp elt [⟨tg,iter,ifs,0⟩] scope pos) 0 (.ref it) acc {cenv with scope:=relabel scope X.env}) (RR acc cenv.locals) s₄) E s₃) E s:=by
 refine bL (wpAny_newFunctionEnv S.DD (by intro y hy;simp at hy) (λ h₁ hns₁ hsb₁=>?_) S.kind);dsimp only at hns₁ hsb₁ ⊢;generalize hH2:s.heap.push {cls:=.type "list",dict:=My,data:=.seq ([]:List g_).toArray}=H2 at hns₁ hsb₁ ⊢;have hC:H2.objs.size=s.heap.objs.size+1:=by rw[<-hH2,cn]
 have hDC:s.heap.objs.size≠H2.objs.size:=by rw[hC];exact aU (eJ _)
 have hCle:s.heap.objs.size<=H2.objs.size:=by rw[hC];exact gm _
 have below:∀ b,b<s.heap.objs.size->b≠H2.objs.size/\b≠s.heap.objs.size:=λ b hb=>⟨by rw[hC];exact aU (eD hb),aU hb⟩;have old:∀ b o,s.heap.get? b=kb o->h₁.get? b=kb o:=λ b o e=>hsb₁.extBut b o (below b (aw e)).1 (ai _ (hH2▸ai _ e));have hacc:h₁.PlainList s.heap.objs.size #[]:=⟨_,hsb₁.extBut _ _ hDC (ai _ (hH2▸aK _ rfl))⟩;have hlt:∀ b∈fp,b<s.heap.objs.size:=λ b hb=>by obtain⟨o,e,_⟩:=T.obj 0 s.heap st b hb;exact aw e
 generalize hDD:s.heap.objs.size=D,hCC:H2.objs.size=C at *;have hDs:s.heap.objs.size<=D:=fg hDD;have I0:Inv (X.comp (own++fr) scope C s H fp) [] (jo own ix σ) H {s with heap:=h₁,toks:=s.toks+([]:List (Str×g_)).length}:=I.enter S hf (by rw[hDD];exact hlt) (by rw[hDD];exact hCle) hns₁ old;have st0:tn 0 h₁:=T.keep 0 _ _ st λ b _ o e=>old b o e;have nfs:D∉frs X.stack:=λ z=>by obtain⟨_,o,ho,_⟩:=I.stack.mem z;exact absurd (aw ho) (by rw[hDD];exact aX _)
 have ncell:∀ x c,(qU scope X.env).lookup x=kb c->c≠D:=λ x c e z=>by obtain⟨v,q⟩:=I.cell x c (S.sub I.ok x c e);exact absurd q.lt (by rw[z,hDD];exact aX _)
 have nfp:D∉fp:=λ z=>aX _ (hlt D z);have fpS:∀ b∈fp,b∉frs X.stack:=λ b hb z=>by
  rcases aG.mp (I.tR b z) with q | q
  ·exact(hf b hb).2.1 q
  ·exact(hf b hb).2.2.1 q
 have fpO:∀ (pl:hJ) (H':Hp),(∀ p∈pl,p.1=D)->(∀ b∈fp,H' b=My)->∀ b∈fp,pO (X.comp (own++fr) scope C s H fp) pl H' b:=λ pl H' hpl hn b hb =>
  ⟨hn b hb,(below b (hlt b hb)).1,fpS b hb,.inl hb,λ x c e=>(hf b hb).2.2.2.2.1 x c (S.sub I.ok x c e),λ p hp z=>by
   have hp:p∈pl:=by simpa [Cx.comp] using hp
   rw[hpl p hp]at z;exact nfp (z▸hb)⟩
 have loop:∀ s₃:hE,s₃={s with heap:=h₁,toks:=s.toks+([]:List (Str×g_)).length} ->
   codeAny (model X.prog X.w) X.A (.compLoop (.ListComp elt [⟨tg,iter,ifs,0⟩] scope pos) 0 (.ref it) (.ref D) (compEnvC scope (qU scope X.env) C X.env)) (RR (.ref D) C) s₃:=by
  rintro s₃ rfl;refine z7 (λ n s'=>∃ i ys its H',Inv (X.comp (own++fr) scope C s H fp) [] (jo own ix σ) H' s'/\s'.heap.PlainList D its/\Vals ys its.toList/\H' D=My/\tn i s'.heap/\(∀ b∈fp,H' b=My)/\ys.length<=sizeLine/\W i n ys H') ?_ m0
   ⟨0,[],#[],H,I0,hacc,.nil,I.hok.fresh hDs,st0,λ b hb=>(hf b hb).1,aZ _,w0⟩
  rintro n s' ⟨i,ys,its,H',I',acc',rv,hD',st',fr',hz,w'⟩;obtain⟨na,ha⟩:=id acc';have I1:Inv (X.comp (own++fr) scope C s H fp) [(D,{cls:=.type "list",data:=.seq its na})] (jo own ix σ) H' s':=I'.mj λ p hp=>by
   have e:p=(D,({cls:=.type "list",data:=.seq its na}:Obj)):=by simpa using hp
   subst e;exact⟨ha,hD',hDC,nfs,λ v z=>by cases z⟩
  have hpl:∀ p∈[(D,({cls:=.type "list",data:=.seq its na}:Obj))],p.1=D:=λ p hp=>by
   have e:p=(D,({cls:=.type "list",data:=.seq its na}:Obj)):=by simpa using hp
   rw[e]
  rcases turn i n ys H' w' with⟨stop,qn⟩ | ⟨go,hys,step⟩
  ·refine thn (T.done (X.comp (own++fr) scope C s H fp) rfl rfl rfl hc i _ s' _ H' _ I1 (fpO _ H' hpl fr') st' stop) λ r s1 ⟨hr,I2⟩=>?_
   subst hr;have hD1:=(I2.pin (D,_) (ao _ (aN.mpr rfl))).1;obtain⟨m1,hm1,_⟩:=I2.loc;have J1:Inv X pins σ H' s1:=I.Ny I2.os I2.base I2.hok I2.bare λ b hb=>⟨(hf b hb).2.2.2.1,(hf b hb).2.1,(hf b hb).2.2.2.2.1,(hf b hb).2.2.2.2.2⟩;have hXD:X.s₀.heap.objs.size<=D:=by rw[<-hDD];exact I.sz
   have J2:Inv X pins σ (upd H' D (.lst ys)) s1:=J1.zd hD' hXD (bR (by rw[<-hDD];exact I.lt)) (λ x c e z=>by
     obtain⟨v,q⟩:=I.cell x c e;exact absurd q.lt (by rw[z,hDD];exact aX _)) (λ p hp z=>by
     have:=aw (I.pin p hp).1;rw[z,hDD]at this;exact aX _ this) ⟨hz,its.toList,na,rv,by simpa using hD1⟩
   exact fin D C s1 _ J2 (qn D hD') hCle (by rw[iI (aY hDC)];exact I2.free) ⟨m1,hm1⟩
  ·refine thn (T.item (X.comp (own++fr) scope C s H fp) rfl rfl rfl hc i _ s' _ H' _ I1 (fpO _ H' hpl fr') st' go) λ r s1 ⟨u,hr,h1⟩=>?_
   subst hr;refine thn h1 λ _ s2 ⟨x,H2',I2,r2,y2,st2,fr2⟩=>?_;have I2':=I2.pinned (fpO _ H2' hpl fr2) (T.obj _ _ st2);refine thn (hg C _ s2 _ H2' x u _ I2' r2 (hgo _ _ _ _ (step x H2' y2))) λ _ s3 ⟨σ3,H3,I3,own3,len3,q3⟩=>?_;refine thn (ht C _ s3 σ3 H3 _ I3 q3) λ ok s4 ⟨H4,I4,q4⟩=>?_;have weak:∀ {pl H5 s5},Inv (X.comp (own++fr) scope C s H fp) pl σ3 H5 s5->Inv (X.comp (own++fr) scope C s H fp) pl (jo own ix σ) H5 s5:=λ I5=>I5.weak len3.symm λ j v e=>by
    by_cases hj:own.length<=j
    ·rw[own3 j hj];exact e
    ·exfalso
     unfold jo at e;rw[br (by simp;lia),aD]at e;cases q:own[j]? with
     | none=>rw[q]at e;cases e
     | some a=>rw[q]at e;cases e
   have again:∀ {H5:Hp} {s5:hE} {ys':List V} {its':Array g_} {n':Nat},Inv (X.comp (own++fr) scope C s H fp) ([(D,({cls:=.type "list",data:=.seq its na}:Obj))]++lN fp s2.heap) σ3 H5 s5->W (i+1) n' ys' H5->Vals ys' its'.toList->ys'.length<=sizeLine ->
     ∀ h',(∀ b o,b≠D->s5.heap.get? b=kb o->h'.get? b=kb o)->h'.PlainList D its'->∃ i ys its H',Inv (X.comp (own++fr) scope C s H fp) [] (jo own ix σ) H' {s5 with heap:=h'}/\h'.PlainList D its/\Vals ys its.toList/\H' D=My/\tn i h'/\(∀ b∈fp,H' b=My)/\ys.length<=sizeLine/\W i n' ys H':=by
    intro H5 s5 ys' its' n' I5 w5 rv5 hz5 h' k5 a5;have hD5:H5 D=My:=(I5.pin (D,_) (ao _ (aM _ (aN.mpr rfl)))).2.1;have I6:Inv (X.comp (own++fr) scope C s H fp) [] (jo own ix σ) H5 s5:=(weak I5).mj λ p hp=>absurd hp (by simp);refine⟨i+1,ys',its',H5,I6.turned (t':=s5.toks) k5 hD5 hDC (.inr hDs) ncell (λ p hp=>absurd hp (by simp[Cx.comp])),a5,rv5,hD5,T.keep _ _ _ st2 λ b hb o e=>k5 b o (λ z=>nfp (z▸hb)) (I5.pin (b,o) (ao _ (ao _ (jV hb e)))).1,λ b hb=>?_,hz5,w5⟩;obtain⟨o,e,d⟩:=T.obj _ _ st2 b hb;exact(I5.pin (b,o) (ao _ (ao _ (jV hb e)))).2.1
   have pinD:∀ {H5:Hp} {s5:hE},Inv (X.comp (own++fr) scope C s H fp) ([(D,({cls:=.type "list",data:=.seq its na}:Obj))]++lN fp s2.heap) σ3 H5 s5->s5.heap.PlainList D its:=λ I5 =>⟨na,(I5.pin (D,_) (ao _ (aM _ (aN.mpr rfl)))).1⟩
   cases ok with
   | false =>rw[ag ax]at q4;rw[ag ax];obtain⟨m',hm',w4⟩:=q4;exact⟨m',hm',again I4 w4 rv hz s4.heap (λ _ _ _ e=>e) (pinD I4)⟩
   | true =>rw[ae rfl]at q4;rw[ae rfl];refine thn (he C _ s4 σ3 H4 _ I4 q4) λ y s5 ⟨v,H5,I5,r5,m',hm',w5⟩=>?_;have hl:=rv.length;refine wpAny_list_append_plain (hsz:=by simp at hl;lia) (pinD I5) λ h6 hl6 hs6=>?_;refine⟨m',hm',again I5 w5 (its':=its.push y) ?_ (by rw[aQ,cy];lia) h6 (λ b o hb e=>hs6.extBut b o hb e) hl6⟩;rw[gw];exact gq rv r5
 exact codeAny_compStart_list (loop _ rfl) (T.self _ 0 _ _ _ st0 (loop _ rfl))
theorem NP (hc:X.calm=V0)(S:kq X scope own fr ix){wi:TI}(hi:PI X tg iter wi)(hg:∀ C s H fp,PG (X.comp (own++fr) scope C s H fp) tg g)(hgo:yt own.length g)
  (ht:∀ C s H fp,PF (X.comp (own++fr) scope C s H fp) ifs tc) (he:∀ C s H fp,PE (X.comp (own++fr) scope C s H fp) elt te) (hs:∀ x,foldedSetIterable iter X.env x=pure x:=by intro _;rfl) :
  PE X (.ListComp elt [⟨tg,iter,ifs,0⟩] scope pos) (tLC own ix wi g tc te):=by
 intro pins s σ H Q I h;rw[eval_ListComp];refine eT (use:=My) rfl hs (rA (S.cells I.ok)) S.kind S.loc (thn (hi pins s σ H _ I h) λ v s1 h1=>thn h1 λ itv s2 h2=>?_);obtain⟨it,fp,tn,J,H2,e,I2,T,st2,f2,W,⟨m0,w0⟩,turn⟩:=h2;subst e;refine Bz (Qe:=Q) (RR:=λ acc C=>compPost (model X.prog X.w) X.A X.xe My (EP X pins σ Q) acc C) I2 hc S T st2 f2 (λ C=>hg C _ _ _) hgo (λ C=>ht C _ _ _) (λ C=>he C _ _ _) w0 turn ?_;rintro D C s' H' J1 q hC hn ⟨m,hm⟩;refine⟨m,hm,λ h'' hs''=>⟨.ref D,H',?_,rfl,q⟩⟩;exact J1.turned (t':=s'.toks) (λ b o hb e=>hs''.extBut b o hb e) hn (bR (aB I2.lt hC)) (.inr (bg I2.sz hC)) (λ x c e z=>by
  obtain⟨v,q⟩:=I2.cell x c e;exact absurd q.lt (by rw[z];exact ed.mpr hC)) (λ p hp z=>by
  have:=aw (I2.pin p hp).1;rw[z]at this;exact absurd this (ed.mpr hC))
theorem NQ {i:Nat}{x:Str}{px spos:Pos}(hN:X.N.Nodup)(hi':X.N[i]?=kb x)(hx:Loc X.env.scope x)(hc:X.calm=V0)(S:kq X scope own fr ix){wi:TI}(hi:PI X tg iter wi)(hg:∀ C s H fp,PG (X.comp (own++fr) scope C s H fp) tg g)(hgo:yt own.length g)
  (ht:∀ C s H fp,PF (X.comp (own++fr) scope C s H fp) ifs tc) (he:∀ C s H fp,PE (X.comp (own++fr) scope C s H fp) elt te)
  (hsw:swapsWith (.ListComp elt [⟨tg,iter,ifs,0⟩] scope pos) (kb (.Name x px)) spos.line X.env=pure V0:=by rfl) (hf:X.fn x=V0\/X.env.scope.names.lookup x=kb .local:=by trivial)
  (hs:∀ x,foldedSetIterable iter X.env x=pure x:=by intro _;rfl) :
  PS X (.Assign [.Name x px] (.ListComp elt [⟨tg,iter,ifs,0⟩] scope pos) spos) (λ D σ H=>tLC own ix wi g tc te σ H λ v H'=>D.nx (σ.set i (kb v)) H'):=by
 intro pins s σ H D I h;rw[exec_Assign_Name_used _ _ _ _ hsw];refine aa (cU (aa ?_));show wpAny _ X.A (do let _<-comprehension (.ListComp elt [⟨tg,iter,ifs,0⟩] scope pos) scope X.env _ (newList []) V1 (eval iter X.env) (kb (assign (.Name x px) X.env))) _ _ s;refine aa (cv (eT (use:=kb (assign (.Name x px) X.env)) (Q:=λ _ s'=>SP X pins D .next s') rfl hs (rA (S.cells I.ok)) S.kind S.loc
  (thn (hi pins s σ H _ I h) λ v s1 h1=>thn h1 λ itv s2 h2=>?_)) (λ _ s' hq=>ah (ah hq)) λ _ _ e=>e)
 obtain⟨it,fp,tn,J,H2,e,I2,T,st2,f2,W,⟨m0,w0⟩,turn⟩:=h2;subst e;refine Bz (Qe:=λ v H'=>D.nx (σ.set i (kb v)) H') (RR:=λ acc C=>compPost (model X.prog X.w) X.A X.xe (kb (assign (.Name x px) X.env)) (λ _ s'=>SP X pins D .next s') acc C) I2 hc S T st2 f2 (λ C=>hg C _ _ _) hgo (λ C=>ht C _ _ _) (λ C=>he C _ _ _) w0 turn ?_;rintro Dd C s' H' J1 q hC hn ⟨m,hm⟩;show wpAny _ X.A (assign (.Name x px) X.env (.ref Dd)) _ _ _;refine gf (tS (v:=.ref Dd) J1 hN hi' hx rfl (λ s'' J2 ⟨a,hsb,ha⟩=>?_) hf);have neC:a≠C:=by
  rcases ha with ha | ha
  ·rw[ha];exact aU (aB I2.lt hC)
  ·obtain⟨v,q⟩:=I2.cell x a ha;exact aU (aB q.lt hC)
 refine⟨m,hm.sameBut hsb neC.symm,λ h'' hs''=>⟨_,H',?_,q⟩⟩;exact J2.turned (t':=s''.toks) (λ b o hb e=>hs''.extBut b o hb e) hn (bR (aB I2.lt hC)) (.inr (bg I2.sz hC)) (λ x c e z=>by
  obtain⟨v,q⟩:=I2.cell x c e;exact absurd q.lt (by rw[z];exact ed.mpr hC)) (λ p hp z=>by
  have:=aw (I2.pin p hp).1;rw[z]at this;exact absurd this (ed.mpr hC))
end
end L2
namespace Tb
open PySem PySem.W PySem.Spec PyProof.Rows
def pLt (a b:Int×Int):Bool:=decide (a.1<b.1) || (decide (a.1=b.1)&&decide (a.2<b.2))
theorem qC (a b:Int×Int):pLt a b=V0↔a.1<b.1\/(a.1=b.1/\a.2<b.2):=by simp[pLt]
theorem ua (a b:Int×Int):pLt a b=V1↔¬ (a.1<b.1\/(a.1=b.1/\a.2<b.2)):=by rw[<-qC];simp
def PO:KeyOrd where
 α:=Int×Int
 blt:=pLt
 irrefl:=λ a=>by rw[ua];lia
 trans:=λ a b c h1 h2=>by rw[qC]at *;lia
 negTrans:=λ a b c h=>by rw[qC]at *;rw[qC];lia
 total:=λ a b h1 h2=>by
  rw[ua]at h1 h2
  exact gT (by lia) (by lia)
section
variable {prog:Program}{w:World}{A:Around}{E:g0}{s:hE}{h₀:Heap}{L:Addr}{m:gZ}{news:hJ}
theorem IC {h:Heap}{x y:Int}{b:Addr}(k:lZ prog w h [x,y] b):∃ o n t u,h.get? b=kb o/\o.cls=.type "tuple"/\o.data=.seq #[.int x t,.int y u] n:=by
 obtain⟨o,its,n,e1,e2,e3,e4⟩:=k;generalize hits:its.toList=L at e4;cases e4 with
 | cons h1 e5=>cases e5 with
  | cons h2 e6 =>cases e6;obtain⟨t,q1⟩:=fb h1;obtain⟨u,q2⟩:=fb h2;refine⟨o,n,t,u,e1,e2,?_⟩;rw[e3,<-q1,<-q2];congr 1;apply Array.ext';rw[hits]
theorem u4 {h:Heap}:∀ (vs:List g_),(∀ v∈vs,∃ b x y,v=.ref b/\lZ prog w h [x,y] b)->∃ fs:List g_,KatTups h vs fs/\fs.length=vs.length/\∀ f∈fs,∃ i t,f=Value.int i t
 | [],_=>⟨[],trivial,rfl,λ f hf=>by cases hf⟩
 | v::r,hv=>by
  obtain⟨fs,q1,q2,q3⟩:=u4 r λ u hu=>hv u (ar _ hu);obtain⟨b,x,y,rfl,tk⟩:=hv v av;obtain⟨o,n,t,u,e1,e2,e3⟩:=IC tk;refine⟨.int x t::fs,KatTups.cons e1 e2 e3 rfl q1,by simp[q2],λ f hf=>?_⟩;rcases aG.mp hf with rfl | hf
  ·exact⟨x,t,rfl⟩
  ·exact q3 f hf
theorem ID {i j:Nat}{vs:List g_}{a b:Int×Int}{p q:Addr}{C:Bool->hE->Prop}(hi:vs[i]?=kb (.ref p))(hj:vs[j]?=kb (.ref q))(ki:lZ prog w s.heap [a.1,a.2] p)(kj:lZ prog w s.heap [b.1,b.2] q)(h:C (pLt a b) s) :
  kas_ask prog w A (tuples' V0) vs i j C s:=by
 unfold kas_ask;rw[aA,hi,aA,hj,eG,eG];obtain⟨o1,n1,t1,u1,e1,c1,d1⟩:=IC ki;obtain⟨o2,n2,t2,u2,e2,c2,d2⟩:=IC kj;refine kat_lt e1 d1 e2 d2 ?_;show KatLex prog w A V0 _ C [(Value.int a.1 t1,Value.int b.1 t2),(Value.int a.2 u1,Value.int b.2 u2)] 0 s;refine kat_cons (wpAny_eqBool_int ?_);by_cases h1:a.1=b.1
 ·rw[show(a.1==b.1)=V0 by simpa using h1]
  refine kat_yes (kat_cons (wpAny_eqBool_int ?_));by_cases h2:a.2=b.2
  ·rw[show(a.2==b.2)=V0 by simpa using h2]
   refine kat_yes (kat_nil ?_);have e:pLt a b=V1:=by rw[ua];lia
   rw[e]at h;exact h
  ·rw[show(a.2==b.2)=V1 by simpa using h2]
   refine kat_no ?_;show wpAny _ _ (oneLt' V1 (.int a.2 u1) (.int b.2 u2)) _ _ _;refine kat_one _ _ (lt_int ?_);have e:pLt a b=decide (a.2<b.2):=by simp[pLt,h1]
   rw[e]at h;exact h
 ·rw[show(a.1==b.1)=V1 by simpa using h1]
  refine kat_no ?_;show wpAny _ _ (oneLt' V0 (.int a.1 t1) (.int b.1 t2)) _ _ _;refine oneLt_int ?_;have e:pLt a b=decide (a.1<b.1):=by simp[pLt,h1]
  rw[e]at h;exact h
theorem wQ {D:Addr}{vs:List g_}{X:Nat->Int×Int}{Q:g0}(F:Fr h₀ L s.heap m)(N:News h₀ L s.heap ((D,listOf vs.toArray 0)::news))(hD:∀ p∈news,p.1≠D)(h2:2<=vs.length)(h64:vs.length<64)
  (ht:∀ h',Fr h₀ L h' m->News h₀ L h' news->∀ (i:Nat) v,vs[i]?=kb v->∃ b,v=.ref b/\lZ prog w h' [(X i).1,(X i).2] b)
  (h:∀ (p:Array Nat) h' c,Pm vs.length p->Sor (O:=PO) X p vs.length->Fr h₀ L h' m->News h₀ L h' ((D,listOf (List.toArray (p.toList.map λ i=>vs.getD i Value.none)) c)::news)->Q .none {s with heap:=h'}) :
  wpAny (model prog w) A (call (.builtin "list.sort") [.ref D]) Q E s:=by
 refine kat_lsort F N (.head hD) (by simp) h2 h64 λ e1 h' F' N'=>?_;have N'':News h₀ L h' news:=λ p hp=>N' p (ar _ hp);have keys:=ht h' F' N'';have at_i:∀ i,i<vs.length->∃ b,vs[i]?=kb (.ref b)/\lZ prog w h' [(X i).1,(X i).2] b:=λ i hi=>by obtain⟨b,e,tk⟩:=keys i vs[i] (by simp[hi]);exact⟨b,by rw[<-e];simp[hi],tk⟩
 obtain⟨fs,q1,q2,q3⟩:=u4 (prog:=prog) (w:=w) (h:=h') vs λ v hv=>by obtain⟨i,hi,ei⟩:=bX hv;obtain⟨b,e,tk⟩:=keys i v (by rw[<-ei];simp[hi]);exact⟨b,_,_,e,tk⟩
 refine kat_kind (s:={s with heap:=h'}) (T:=.type "int") q1 (by lia) (λ v hv=>?_) (by decide) ?_
 ·obtain⟨i,t,rfl⟩:=q3 v hv;exact Looks.of_pure rfl
 ·show(kas_sort vs.length).kasWp (kas_ask prog w A.in1 (tuples' V0) vs) _ _
  refine Tr.wp (n:=vs.length) (c:=cO (O:=PO) X) (R:=λ p=>Pm vs.length p/\Sor (O:=PO) X p vs.length) (λ i j C hi hj hc=>?_) (λ p hp=>?_) _ (Pn (by lia))
  ·obtain⟨b1,v1,k1⟩:=at_i i hi;obtain⟨b2,v2,k2⟩:=at_i j hj;exact ID v1 v2 k1 k2 hc
  ·exact KasFin.intro F' N' (.head hD) λ h2 c F2 N2=>h p h2 c hp.1 hp.2 F2 N2
theorem wR {D:Addr}{vs:List g_}{Q:g0}(ho:s.heap.get? D=kb (seqObj "list" vs.toArray 0))(h2:vs.length<2)
  (h:∀ h' c,(∀ b o,b≠D->s.heap.get? b=kb o->h'.get? b=kb o)->h'.get? D=kb (seqObj "list" vs.toArray c)->Q .none {s with heap:=h'}) :
  wpAny (model prog w) A (call (.builtin "list.sort") [.ref D]) Q E s:=by
 have hlt:D<s.heap.objs.size:=aw ho;refine bV slot_list_sort ⟨_,ho,rfl⟩ entry_list_sort ?_ (args_list_sort _);rw[list_sort_plain];refine aa (listItems_at ho rfl ?_);refine aa (listUpdate_at ho rfl ?_ (by simp;rw[sizeLine_eq];lia) (by simp));obtain⟨e1,ho1⟩:∃ e1,(s.heap.update D (Obj.mapSeq λ _=>#[])).get? D=kb (seqObj "list" #[] e1):=⟨_,get?_update_seq ho λ _=>#[]⟩;refine aa (seqEpoch_at ho1 rfl ?_);refine aa (wpAny_newTuple ?_ (by rw[sizeLine_eq];simp;lia));refine aa (wpAny_newList ?_ (by simp));refine bT ?_;have ho6:(((s.heap.update D (Obj.mapSeq λ _=>#[])).push (seqObj "tuple" vs.toArray 0)).push (seqObj "list" #[] 0)).get? D=kb (seqObj "list" #[] e1) :=
  ai _ (ai _ ho1)
 show wpAny (model prog w) _ _ _ _ {s with heap:=((s.heap.update D (Obj.mapSeq λ _=>#[])).push (seqObj "tuple" vs.toArray 0)).push (seqObj "list" #[] 0)};dsimp only;have hsz:vs.toArray.size<2:=by simpa using h2
 rw[ae hsz,ae hsz];refine aa (ah ?_);rw[StateT.run_pure];refine aa (ah ?_);dsimp only;refine aa (seqEpoch_at ho6 rfl ?_);have hout:(arrOf (SortSt.mk' general' (vs.toArray.zip vs.toArray) #[] 7 My)).map (·.2)=vs.toArray:=by show(vs.toArray.zip vs.toArray).map (·.2)=vs.toArray;apply Array.ext';simp;exact List.map_snd_zip (aq _)
 rw[hout];refine aa (listUpdate_at ho6 rfl ?_ (by simp) (by simp;rw[sizeLine_eq];lia));simp only[bne_self_eq_false,aS,bP];obtain⟨c,hc⟩:∃ c,((((s.heap.update D (Obj.mapSeq λ _=>#[])).push (seqObj "tuple" vs.toArray 0)).push (seqObj "list" #[] 0)).update D (Obj.mapSeq λ _=>vs.toArray)).get? D=kb (seqObj "list" vs.toArray c):=⟨_,get?_update_seq ho6 λ _=>vs.toArray⟩;refine ah ⟨_,rfl,h _ c (λ b o hb e=>?_) hc⟩;rw[Heap.get?_update_ne _ _ _ _ hb];refine ai _ (ai _ ?_);rw[Heap.get?_update_ne _ _ _ _ hb];exact e
theorem IE {r:Addr}{Q:Bool->hE->Prop}(hT:s.TypeIs (.ref r) "set")(h:Q V1 s):wpAny (model prog w) A (Builtin.List.listLengthHint (.ref r)) Q E s:=by
 unfold Builtin.List.listLengthHint;refine aa (wpAny_specialOf hT PySem.F.slot_set_len.lookup ?_);generalize hid:("set.__len__":String)=id0
 wp_delta
 rw[show splitId id0=kb ("set","__len__") from by subst hid;decide +kernel];subst hid;refine aa (wpAny_isInstance (T:="set") (b:=V0) hT (by rw[isSubtype_type];kernel_rfl) ?_);refine wpAny_ite_split (λ hab=>absurd hab (by decide)) (λ _=>?_);refine wpAny_ite_split (λ _=>?_) (λ hab=>absurd (by decide +kernel) hab);exact aa (fU hT (ah h))
theorem IF {S:Addr}{oS:Obj}{es:Array (Int×g_)}{ep:Nat}{t:SetTable}{Q:g0}(hS:s.heap.get? S=kb oS)(hx:oS.ExactSet)(hd:oS.data=.set es ep t)(T:TOk t (es.toList.map (·.1)))(hp:t.plain=V0)
  (hQ:Q (.ref s.heap.objs.size) {s with heap:=s.heap.push {cls:=.type "set_iterator",data:=.fields #[rawInt 0,rawInt 0,.ref S,rawInt es.size,rawInt ep]}}):wpAny (model prog w) A (pyIter (.ref S)) Q E s:=by
 have hT:s.TypeIs (.ref S) "set":=⟨oS,hS,hx.1⟩;have hfit:=fits_of T (n:=es.size) (by simp);refine wpAny_pyIter_slot hT F.slot_set_iter (bV F.slot_set_iter hT yr ?_ (F.args_set_iter_1 _));unfold Builtin.«frozenset.__iter__»;refine aa ?_;unfold Builtin.Frozenset.slot0;refine aa (ah ?_);show wpAny _ _ (pure S) _ _ _;refine ah ?_;refine aa ?_;unfold Builtin.Frozenset.sizeOf;refine aa (pS hS hd T (ah ?_));refine aa ?_;unfold setDrawn;refine aa (bZ hS hd hfit ?_);dsimp only;refine aa (z5 ?_);refine ah ?_;show wpAny _ _ (if (!w.params.followText "set-order"&&(!t.plain&&decide (es.size>1)))=V0 then _ else _) _ _ _;rw[hp];simp only[di,gS,fX,aS,bP];refine aa (ah ?_);refine aa (aa (bZ hS hd hfit (ah ?_)));refine aa (bL (ah ⟨_,rfl,"set_iterator",_,⟨_,aK _ rfl,rfl⟩,kD.lookup,?_⟩));exact hQ
theorem LQ {S:Addr}{oS:Obj}{es:Array (Int×g_)}{ep:Nat}{t:SetTable}(hx:oS.ExactSet)(hd:oS.data=.set es ep t)(T:TOk t (es.toList.map (·.1)))(hp:t.plain=V0)(hl:t.led=!(w.params.followText "set-order")) :
  KdlSrc prog w "set" S S es.size (λ i v=>∃ hv,(seen w S ep es)[i]?=kb (hv,v)) (λ h=>h.get? S=kb oS) where
 type:=λ _ e=>⟨oS,e,hx.1⟩
 there:=λ _ e=>⟨aw e,aw e⟩
 keep:=λ _ _ e hk=>hk S (.inl rfl) oS e
 notList:=by decide
 notTuple:=by decide
 hint:=λ _ _ _ _ e hq=>IE ⟨oS,e,hx.1⟩ hq
 iter:=λ A s hh e=>⟨_,_,(λ _ _ hq=>IF e hx hd T hp hq),IA hh (aU (aw e)) hd T hp hl,⟨⟨_,0,aK _ rfl,rfl,rfl,λ _=>DB T.ri⟩,ai _ e⟩⟩
end
end Tb
namespace L2
open PySem PySem.W PySem.Spec PyProof.Rows Tb
section
variable {X:Cx}{pins:hJ}{σ:St}{H:Hp}{s:hE}
theorem rB {prog:Program}{w:World}:∀ {k:List Int} {its:List g_},Vals (k.map V.int) its->ItemsAre (intKind prog w) k its
 | [],_,.nil=>.nil
 | i::r,_,.cons ⟨t,e⟩ q=>by subst e;exact .cons (intKind_is _ _ _ _) (rB q)
theorem Fi {prog:Program}{w:World}{H:Hp}{h:Heap}(ok:HOk prog w H h){k:List Int}{b:Addr}(e:H b=kb (.tup (k.map V.int))):lZ prog w h k b:=by obtain⟨_,its,r,o,e1,e2,n,e3⟩:=ok b _ e;exact⟨o,its.toArray,n,e1,e2,e3,by simpa using rB r⟩
def GG (H:Hp)(vs:List V)(kk:List (List Int)):Prop:=Paired (λ v k=>∃ b,v=V.ref b/\H b=kb (.tup (k.map V.int))) vs kk
def LR (w:World)(H:Hp)(S:Addr)(ks:List (List Int)):Prop:=∃ oS es ep t,H S=kb (.ext λ h=>h.get? S=kb oS)/\oS.ExactSet/\oS.data=.set es ep t/\TOk t (es.toList.map (·.1))/\t.plain=V0/\t.led=!(w.params.followText "set-order")/\es.size<=76/\ks.Nodup /\
 Paired (λ k (e:Int×g_)=>∃ b,e.2=Value.ref b/\H b=kb (.tup (k.map V.int))) ks es.toList
theorem ub {α β:Type}{F:α->β->Prop}:∀ {xs:List α} {ys:List β},Paired F xs ys->∀ (i:Nat) (x:α),xs[i]?=kb x->∃ y,ys[i]?=kb y/\F x y
 := by
  intro xs ys h;induction h with
  | nil=>intro i x h;simp at h
  | cons h t ih =>
    intro i x e;cases i with
    | zero =>rw[cC]at e;cases e;exact⟨_,rfl,h⟩
    | succ i =>rw[bG]at e;obtain⟨y,q1,q2⟩:=ih i x e;exact⟨y,by rw[bG];exact q1,q2⟩
theorem IG (hc:X.calm=V0)(hu:X.A.units+64<cLine):j3 X (.type "set") (λ xs H Q=>∃ l vs kk,xs=[V.ref l]/\SqL X.K H l vs/\GG H vs kk/\vs.length<=40 /\
  ∀ S o ks,H S=My->LR X.w (upd H S o) S ks->(∀ k,k∈ks↔k∈kk)->Q (.ref S) (upd H S o)):=by
 intro pins s σ H xs us Q I r h;obtain⟨l,vs,kk,rfl,hl,ht,hz,q⟩:=h;obtain⟨u,rfl,ru⟩:=vals1 r;cases ru;obtain⟨its,rv,p,_⟩:=I.list hl;have hlen:vs.length=its.length:=rv.length;have hkl:vs.length=kk.length:=ht.length;refine Bu (G:=λ k b=>H b=kb (.tup (k.map V.int))) (I.ok.hd hc) (cB (show X.A.units+40<=X.A.units+64 by lia) hu) p.isList (kk:=kk) (by simp;lia) (by simp;lia) (λ j v hj=>?_) λ h' tk ks kp S' m'=>?_
 ·have hj:its[j]?=kb v:=by simpa using hj
  have hjl:j<vs.length:=by have:=(a_.mp hj).1;lia
  obtain⟨k,hk1,b,hb,hb2⟩:=ub ht j vs[j] (by simp[hjl]);obtain⟨u,hu1,hu2⟩:=rv.get (x:=vs[j]) (i:=j) (by simp[hjl]);rw[hj]at hu1;cases hu1;rw[hb]at hu2;cases hu2;exact⟨k,b,hk1,rfl,Fi I.hok hb2,hb2⟩
 ·obtain⟨oS,es,ep,t,ho,hx,hd,T,En,hp,hl',hr,nd⟩:=S';have keep:∀ b u,s.heap.get? b=kb u->h'.get? b=kb u:=λ b u e=>kp b u (aw e) e;have hn:=I.hok.fresh (aq s.heap.objs.size);have I':Inv X pins σ (upd H s.heap.objs.size (.ext λ h=>h.get? s.heap.objs.size=kb oS)) {s with heap:=h',toks:=tk}:=I.laid keep (aq _) ⟨ho,⟨_,ho⟩,λ h1 h2 a b=>b _ a⟩;refine⟨.ref s.heap.objs.size,_,I',rfl,q _ _ ks hn ⟨oS,es,ep,t,ir,hx,hd,T,hp,hl',?_,nd,oM (λ k e ⟨b,e1,_,e2⟩=>⟨b,by rw[e1],by rw[iI (iU e2 hn)];exact e2⟩) En⟩ m'⟩;rcases hr with⟨_,z⟩ | ⟨_,z⟩ | ⟨_,z⟩<;>lia
theorem Inv.vN {h':Heap}{tk:Nat}{m:gZ}(I:Inv X pins σ H s)(hm:s.heap.Ns X.env.locals m)(F:Fr (Att.j4 s.heap) X.env.locals h' m)(N:News (Att.j4 s.heap) X.env.locals h' (mi (Att.j4 s.heap) s.heap X.env.locals)) :
  Inv X pins σ H {s with heap:=h',toks:=tk}:=by
 have no:∀ b,(Att.j4 s.heap).get? b=My:=λ b=>dO (aZ _);have keep:∀ b o,b≠X.env.locals->s.heap.get? b=kb o->h'.get? b=kb o:=λ b o hb e=>(N (b,o) (Ba hb (no b) e)).1;refine I.step (g':=s.gens) (d':=s.drawn) (ch:=[]) (λ _ z=>nomatch z) (λ b o hb _ _ e _=>keep b o hb e) (λ b o hb _ _ e _=>⟨o.slots,keep b o hb e⟩) (λ _ _ _ _ n=>n) (λ b o _ e=>?_) (λ _ _ e=>e) (λ _ _ _ e=>e) (λ b ps e=>⟨#[],by rw[e];simp⟩) (λ m' hm'=>?_) (λ b u e=>?_) I.bare
 ·by_cases hb:b=X.env.locals
  ·obtain⟨o',_,_,ho',_⟩:=F.ns;exact⟨o',by rw[hb];exact ho'⟩
  ·exact⟨o,keep b o hb e⟩
 ·have:m'=m:=by
   obtain⟨o1,es1,ep1,a1,a2,_,a4⟩:=hm;obtain⟨o2,es2,ep2,b1,b2,_,b4⟩:=hm';rw[a1]at b1;cases b1;rw[a2]at b2;cases b2;funext x;rw[<-a4 x,<-b4 x]
  rw[this];exact F.ns
 ·refine(I.hok b u e).vZ (λ c v hc q=>keep c v ?_ q) (λ _ q=>q) λ _ _ q=>q
  rcases hc with z | z
  ·intro hL;have hf:=I.free;rw[<-hL,z,e]at hf;cases hf
  ·intro hL;have hf:=I.free;rw[<-hL,z]at hf;cases hf
theorem BA {P:Program}{w:World}{H:Hp}{h:Heap}{a:Addr}{o:HO}(x:jO P w H h a o):∃ ob,h.get? a=kb ob:=by
 cases o with
 | lst xs=>obtain⟨_,_,_,_,e⟩:=x;exact⟨_,e⟩
 | tup xs=>obtain⟨_,_,_,ob,e,_⟩:=x;exact⟨ob,e⟩
 | dK kvs=>obtain⟨_,_,_,_,ob,_,_,e,_⟩:=x;exact⟨ob,e⟩
 | dT kvs=>obtain⟨_,_,_,_,ob,_,_,e,_⟩:=x;exact⟨ob,e⟩
 | set S n=>obtain⟨ob,_,_,_,e,_⟩:=x;exact⟨ob,e⟩
 | ins C dx fs=>obtain⟨_,_,_,e,_⟩:=x;exact⟨_,e⟩
 | own y=>obtain⟨ob,e⟩:=x;exact⟨ob,e⟩
 | xd fs=>obtain⟨_,⟨ob,_,_,e,_⟩,_⟩:=x;exact⟨ob,e⟩
 | rng lo hi=>obtain⟨_,_,_,e⟩:=x;exact⟨_,e⟩
 | frz ob u=>obtain⟨e,_⟩:=x;exact⟨_,e⟩
 | tbl ps=>exact⟨_,x⟩
 | met f y=>exact⟨_,x⟩
 | ext φ=>obtain⟨_,⟨ob,e⟩,_⟩:=x;exact⟨ob,e⟩
theorem BB {α β:Type}{F:α->β->Prop}{ys ys':List β}(p:ys.Perm ys'):∀ {xs:List α},Paired F xs ys->∃ xs',xs.Perm xs'/\Paired F xs' ys':=by
 induction p with
 | nil=>intro xs h;exact⟨xs,.refl _,h⟩
 | cons y _ ih =>
  intro xs h;cases h with
  | cons h t =>obtain⟨xs',q1,q2⟩:=ih t;exact⟨_,q1.cons _,.cons h q2⟩
 | swap y z l =>
  intro xs h;cases h with
  | cons h1 t =>
   cases t with
   | cons h2 t=>exact⟨_,List.Perm.swap _ _ _,.cons h2 (.cons h1 t)⟩
 | trans _ _ ih1 ih2 =>intro xs h;obtain⟨x1,q1,q2⟩:=ih1 h;obtain⟨x2,q3,q4⟩:=ih2 q2;exact⟨x2,q1.trans q3,q4⟩
theorem sC {α β γ:Type}{F:β->γ->Prop}(f:α->β):∀ {xs:List α} {ys:List γ},Paired F (xs.map f) ys->Paired (λ a y=>F (f a) y) xs ys
 | [],_,.nil=>.nil
 | _::_,_,.cons h t=>.cons h (sC f t)
theorem nz {α β γ:Type}{F:β->γ->Prop}{f:α->β}{g:α->γ}:∀ (l:List α),(∀ a∈l,F (f a) (g a))->Paired F (l.map f) (l.map g)
 | [],_=>.nil
 | a::r,h=>.cons (h a av) (nz r λ b hb=>h b (ar _ hb))
theorem ly {α:Type}(l:List α)(d:α):(V2 l.length).map (λ i=>l.getD i d)=l:=by
 apply gy;intro i;rw[aD];by_cases h:i<l.length
 ·rw[bx h];simp[h]
 ·rw[bu (by simpa using h),bu (by lia)];rfl
theorem wU (hc:X.calm=V0):j3 X (.builtin "sorted") (λ xs H Q=>∃ S kk,xs=[V.ref S]/\LR X.w H S (kk.map λ(k:Int×Int)=>[k.1,k.2])/\kk.length<64 /\
  ∀ p ws (ss:List (Int×Int)),H p=My->GG H ws (ss.map λ k=>[k.1,k.2])->ss.Pairwise (λ a b=>pLt a b=V0)->ss.Perm kk->Q (.ref p) (upd H p (.lst ws))):=by
 intro pins s σ H xs us Q I r h;obtain⟨S,kk,rfl,hS,h64,q⟩:=h;obtain⟨u,rfl,ru⟩:=vals1 r;cases ru;obtain⟨oS,es,ep,t,e1,hx,hd,T,hp,hl,hz,nd,pr⟩:=hS;have hok:=I.hok S _ e1;have hS:s.heap.get? S=kb oS:=hok.1;obtain⟨m,hm,_⟩:=id I.loc;have no:∀ b,(Att.j4 s.heap).get? b=My:=λ b=>dO (aZ _);have hkl:kk.length=es.size:=by have:=pr.length;simpa using this
 have ndk:kk.Nodup:=by rw[aV]at nd ⊢;rw[bM]at nd;exact nd.imp λ h e=>h (by rw[e])
 obtain⟨k3,pk,pr3⟩:=BB (t_ X.w S ep es).symm (sC _ pr);have hk3:k3.length=es.size:=by rw[<-pk.length_eq,hkl]
 refine Calls.call_function_entry kind_sorted plain_sorted entry_sorted (args_sorted1 _) ?_;unfold Builtin.«sorted»;refine aa (m:=checkCount "sorted" 1 1 _) (ah (aa (kdu_collect (A:=X.A.in1) (LQ hx hd T hp hl) (I.ok.hd hc) hS (by rw[sizeLine_eq];lia) λ h1 tk acc hk hacc=>?_)));have hal:acc.toList.length=es.size:=by rw[cw];exact hacc.1
 have hav:∀ (j:Nat) (v:g_),acc.toList[j]?=kb v->∃ hv,(seen X.w S ep es)[j]?=kb (hv,v):=λ j v e=>hacc.2 j v (by rw[<-bF];exact e);generalize acc.toList=vs at hal hav;refine aa (wpAny_newList ?_ (by rw[sizeLine_eq];lia));have hL:X.env.locals<h1.objs.size:=by obtain⟨oL,_,_,ho,_⟩:=hm;exact aw (hk _ _ ho)
 have at_j:∀ j,j<es.size->∃ b,vs[j]?=kb (.ref b)/\H b=kb (.tup [.int (k3.getD j (0,0)).1,.int (k3.getD j (0,0)).2]):=λ j hj=>by
  obtain⟨hv,e2⟩:=hav j vs[j] (by simp[hal,hj]);have hj3:k3[j]?=kb (k3.getD j (0,0)):=by rw[aA];simp[hk3,hj]
  obtain⟨y,y1,b,y2,y3⟩:=ub pr3 j _ hj3;rw[bF,e2]at y1;cases y1;exact⟨b,by rw[<-y2];simp[hal,hj],y3⟩
 have keep1:∀ b o,s.heap.get? b=kb o->(h1.push {cls:=.type "list",data:=.seq vs.toArray}).get? b=kb o:=λ b o e=>ai _ (hk b o e);have F1:Fr (Att.j4 s.heap) X.env.locals (h1.push {cls:=.type "list",data:=.seq vs.toArray}) m:=⟨hm.at' λ o e=>keep1 _ o e,(λ b o e=>by rw[no]at e;cases e),aZ _⟩;have N1:News (Att.j4 s.heap) X.env.locals (h1.push {cls:=.type "list",data:=.seq vs.toArray}) (mi (Att.j4 s.heap) s.heap X.env.locals):=λ p hp=>let ⟨a,_,c⟩:=lr hp;⟨keep1 _ _ c,a,no _⟩;have hD:(h1.push {cls:=.type "list",data:=.seq vs.toArray}).get? h1.objs.size=kb (listOf vs.toArray 0):=aK _ rfl;have hneD:∀ p∈mi (Att.j4 s.heap) s.heap X.env.locals,p.1≠h1.objs.size:=λ p hp=>let ⟨_,_,c⟩:=lr hp;aU (aw (hk _ _ c));have fin:∀ (l:List Nat) h2 c tk2,l.Perm (V2 es.size)->(l.map λ i=>k3.getD i (0,0)).Pairwise (λ a b=>pLt b a=V1)->Fr (Att.j4 s.heap) X.env.locals h2 m->News (Att.j4 s.heap) X.env.locals h2 ((h1.objs.size,listOf (List.toArray (l.map λ i=>vs.getD i Value.none)) c)::mi (Att.j4 s.heap) s.heap X.env.locals) ->
   EP X pins σ Q (.ref h1.objs.size) {s with heap:=h2,toks:=tk2}:=λ l h2 c tk2 hlp hso F2 N2=>by
  have I2:Inv X pins σ H {s with heap:=h2,toks:=tk2}:=I.vN hm F2 λ p hp=>N2 p (ar _ hp);have hn:H h1.objs.size=My:=by
   cases e:H h1.objs.size with
   | none=>rfl
   | some o =>obtain⟨o',ho'⟩:=BA (I.hok _ _ e);exact absurd (aw (hk _ _ ho')) (aX _)
  have hlt:∀ i∈l,i<es.size:=λ i hi=>ay.mp (hlp.mem_iff.mp hi);let bo:Nat->Addr:=λ i=>match vs[i]? with | some (.ref b)=>b | _=>0
  have hbo:∀ i,i<es.size->vs.getD i Value.none=.ref (bo i)/\H (bo i)=kb (.tup [.int (k3.getD i (0,0)).1,.int (k3.getD i (0,0)).2]):=λ i hi=>by
   obtain⟨b,b1,b2⟩:=at_j i hi;have:bo i=b:=by show(match vs[i]? with | some (.ref b)=>b | _=>0)=b;rw[b1]
   rw[this,aA,b1];exact⟨rfl,b2⟩
  have new:jO X.prog X.w (upd H h1.objs.size (.lst (l.map λ i=>V.ref (bo i)))) h2 h1.objs.size (.lst (l.map λ i=>V.ref (bo i))) :=
   ⟨by rw[ak,hlp.length_eq,bA,sizeLine_eq];lia,l.map λ i=>vs.getD i Value.none,c,nz l λ i hi=>(hbo i (hlt i hi)).1,(N2 _ av).1⟩
  have I3:Inv X pins σ (upd H h1.objs.size (.lst (l.map λ i=>V.ref (bo i)))) {s with heap:=h2,toks:=tk2}:=I2.zd hn (bg I.ok.above (d8 hL)) (bR hL) (λ x c e z=>by
    obtain⟨v,o,ho,_⟩:=I.cell x c e;exact absurd (aw (hk _ _ ho)) (by rw[z];exact aX _)) (λ p hp z=>by
    exact absurd (aw (hk _ _ (I.pin p hp).1)) (by rw[z];exact aX _)) new
  have perm2:(l.map λ i=>k3.getD i (0,0)).Perm kk:=by have:=hlp.map λ i=>k3.getD i (0,0);rw[<-hk3,ly]at this;exact this.trans pk.symm
  have ndl:(l.map λ i=>k3.getD i (0,0)).Nodup:=perm2.nodup_iff.mpr ndk;refine⟨.ref h1.objs.size,_,I3,rfl,q _ _ (l.map λ i=>k3.getD i (0,0)) hn ?_ ?_ perm2⟩
  ·rw[aR];exact nz l λ i hi=>⟨bo i,rfl,(hbo i (hlt i hi)).2⟩
  ·rw[aV]at ndl
   refine(hso.and ndl).imp λ{a b} ⟨h1,h2⟩=>?_;cases e:pLt a b with
   | true=>rfl
   | false=>exact absurd (Tb.PO.total a b e h1) h2
 refine aa (bT ?_);by_cases h2:2<=vs.length
 ·refine wQ (X:=λ i=>k3.getD i (0,0)) F1 (λ p hp=>?_) hneD h2 (by lia) (λ h' F' N' i v hv=>?_) λ p h' c P So F2 N2=>ah ⟨_,rfl,?_⟩
  ·rcases aG.mp hp with rfl | hp
   ·exact⟨hD,bR hL,no _⟩
   ·exact N1 p hp
  ·have hi:i<es.size:=by
    have:=(a_.mp hv).1;lia
   obtain⟨b,b1,b2⟩:=at_j i hi;rw[hv]at b1;cases b1;refine⟨b,rfl,?_⟩;have I2:Inv X pins σ H {s with heap:=h',toks:=s.toks}:=I.vN hm F' N';exact Fi I2.hok (k:=[_,_]) b2
  ·rw[hal]at P So
   refine fin p.toList h' c _ P.2 ?_ F2 N2;rw[bM,cQ];intro i j hi hj hij;have hjs:j<es.size:=by have:=P.size;simp at hj;lia
   have:=So i j (by lia) hjs;unfold KeyOrd.kle Kp at this;have gi:p.getD i 0=p.toList[i]:=by simp[Array.getD,show i<p.size by simpa using hi]
   have gj:p.getD j 0=p.toList[j]:=by simp[Array.getD,show j<p.size by simpa using hj]
   rw[gi,gj]at this;exact this
 ·refine wR hD (by lia) λ h' c kp hc'=>ah ⟨_,rfl,?_⟩
  refine fin (V2 es.size) h' c _ (.refl _) ?_ ⟨F1.ns.at' λ o e=>kp _ o (aU hL) e,(λ b o e=>by rw[no]at e;cases e),aZ _⟩ λ p hp=>?_
  ·have:((V2 es.size).map λ i=>k3.getD i (0,0)).length<2:=by simp;lia
   match (V2 es.size).map (λ i=>k3.getD i (0,0)),this with
   | [],_=>exact .nil
   | [a],_=>exact e_ _ _
  ·rcases aG.mp hp with rfl | hp
   ·refine⟨?_,bR hL,no _⟩;rw[<-hal,ly];exact hc'
   ·exact⟨kp _ _ (hneD p hp) (N1 p hp).1,(N1 p hp).2⟩
end
end L2
namespace L2
open PySem PySem.Spec PyProof.Rows
inductive Dt where
 | non | bl (b:Bool) | int (i:Int) | str (x:Str) | ty (n:String) | opq (v:V) | dct (kvs:List (Int×Int)) | tup (ds:List Dt) | lst (ds:List Dt)
def kvD (kvs:List (Int×Int)):List (Key×V):=kvs.map λ p=>(Sum.inl p.1,V.int p.2)
mutual
inductive Is (K:g9) (H:Hp):V->Dt->Prop
 | non:Is K H .non .non
 | bl (b:Bool):Is K H (.bl b) (.bl b)
 | int (i:Int):Is K H (.int i) (.int i)
 | str (x:Str):Is K H (.str x) (.str x)
 | ty (n:String):Is K H (.ty n) (.ty n)
 | opq (v:V):Is K H v (.opq v)
 | dct {a:Addr} {kvs:List (Int×Int)}:Rd H a (.dK (kvD kvs))->Is K H (.ref a) (.dct kvs)
 | tup {a:Addr} {xs:List V} {ds:List Dt}:SqT K H a xs->Iss K H xs ds->Is K H (.ref a) (.tup ds)
 | lst {a:Addr} {xs:List V} {ds:List Dt}:H a=kb (.lst xs)->Iss K H xs ds->Is K H (.ref a) (.lst ds)
inductive Iss (K:g9) (H:Hp):List V->List Dt->Prop
 | nil:Iss K H [] []
 | cons {x:V} {xs:List V} {d:Dt} {ds:List Dt}:Is K H x d->Iss K H xs ds->Iss K H (x::xs) (d::ds)
end
section
variable {K:g9}{H H':Hp}
theorem Is.mono (ht:∀ a xs,SqT K H a xs->SqT K H' a xs)(hl:∀ a xs,H a=kb (.lst xs)->H' a=kb (.lst xs))(hd:∀ a u,Rd H a u->Rd H' a u){v:V}{d:Dt}(h:Is K H v d):Is K H' v d :=
 Is.rec (motive_1:=λ v d _=>Is K H' v d) (motive_2:=λ v d _=>Iss K H' v d) .non .bl .int .str .ty .opq (λ h=>.dct (hd _ _ h)) (λ h _ i=>.tup (ht _ _ h) i) (λ h _ i=>.lst (hl _ _ h) i) .nil (λ _ _ i j=>.cons i j) h
theorem Iss.mono (ht:∀ a xs,SqT K H a xs->SqT K H' a xs)(hl:∀ a xs,H a=kb (.lst xs)->H' a=kb (.lst xs))(hd:∀ a u,Rd H a u->Rd H' a u){v:List V}{d:List Dt}(h:Iss K H v d):Iss K H' v d :=
 Iss.rec (motive_1:=λ v d _=>Is K H' v d) (motive_2:=λ v d _=>Iss K H' v d) .non .bl .int .str .ty .opq (λ h=>.dct (hd _ _ h)) (λ h _ i=>.tup (ht _ _ h) i) (λ h _ i=>.lst (hl _ _ h) i) .nil (λ _ _ i j=>.cons i j) h
theorem iA.sD {a:Addr}{xs:List V}(e:iA H H')(h:SqT K H a xs):SqT K H' a xs:=by
 rcases h with (h | ⟨o,h⟩) | h
 ·exact .inl (.inl (e _ _ h))
 ·exact .inl (.inr ⟨o,e _ _ h⟩)
 ·exact .inr h
theorem iA.rd {a:Addr}{u:HO}(e:iA H H')(h:Rd H a u):Rd H' a u:=h.elim (λ h=>.inl (e _ _ h)) λ⟨o,h⟩=>.inr ⟨o,e _ _ h⟩
theorem Is.ext (e:iA H H'){v:V}{d:Dt}(h:Is K H v d):Is K H' v d:=h.mono (λ _ _=>e.sD) (λ _ _ h=>e _ _ h) (λ _ _=>e.rd)
theorem Iss.ext (e:iA H H'){v:List V}{d:List Dt}(h:Iss K H v d):Iss K H' v d:=h.mono (λ _ _=>e.sD) (λ _ _ h=>e _ _ h) (λ _ _=>e.rd)
theorem iA.upd {p:Addr}{o:HO}(h:H p=My):iA H (upd H p o):=λ b u e=>by rw[iI (iU e h)];exact e
structure jS (H H':Hp):Prop where
 pJ:∀ b xs,H b=kb (.tup xs)->H' b=kb (.tup xs)
 pK:∀ b o u,H b=kb (.frz o u)->H' b=kb (.frz o u)
theorem jS.refl:jS H H:=⟨λ _ _ h=>h,λ _ _ _ h=>h⟩
theorem jS.trans {H1 H2:Hp}(a:jS H H1)(b:jS H1 H2):jS H H2:=⟨λ c xs h=>b.pJ c xs (a.pJ c xs h),λ c o u h=>b.pK c o u (a.pK c o u h)⟩
theorem iA.text (e:iA H H'):jS H H':=⟨λ b xs h=>e b _ h,λ b o u h=>e b _ h⟩
theorem jS.upd {p:Addr}{o:HO}(mu:Mut (H p)):jS H (upd H p o):=⟨λ b xs e=>by
  rw[iI (λ z=>by subst z;rw[e]at mu;exact mu)];exact e,λ b o u e=>by
  rw[iI (λ z=>by subst z;rw[e]at mu;exact mu)];exact e⟩
theorem jS.sD {a:Addr}{xs:List V}(e:jS H H')(h:SqT K H a xs):SqT K H' a xs:=by
 rcases h with (h | ⟨o,h⟩) | h
 ·exact .inl (.inl (e.pJ _ _ h))
 ·exact .inl (.inr ⟨o,e.pK _ _ _ h⟩)
 ·exact .inr h
mutual
inductive Imm:Dt->Prop
 | non:Imm .non
 | bl (b:Bool):Imm (.bl b)
 | int (i:Int):Imm (.int i)
 | str (x:Str):Imm (.str x)
 | ty (n:String):Imm (.ty n)
 | opq (v:V):Imm (.opq v)
 | tup {ds:List Dt}:n_ ds->Imm (.tup ds)
inductive n_:List Dt->Prop
 | nil:n_ []
 | cons {d:Dt} {ds:List Dt}:Imm d->n_ ds->n_ (d::ds)
end
theorem Imm.iR {ds:List Dt}(h:Imm (.tup ds)):n_ ds:=by cases h;assumption
theorem Imm.lst_inv {ds:List Dt}(h:Imm (.lst ds)):False:=by cases h
theorem Imm.qD {ds:List (Int×Int)}(h:Imm (.dct ds)):False:=by cases h
theorem n_.inv {d:Dt}{ds:List Dt}(h:n_ (d::ds)):Imm d/\n_ ds:=by cases h;exact⟨by assumption,by assumption⟩
theorem Is.text (e:jS H H'){v:V}{d:Dt}(h:Is K H v d):Imm d->Is K H' v d :=
 Is.rec (motive_1:=λ v d _=>Imm d->Is K H' v d) (motive_2:=λ v d _=>n_ d->Iss K H' v d) (λ _=>.non) (λ b _=>.bl b) (λ b _=>.int b) (λ b _=>.str b) (λ b _=>.ty b) (λ b _=>.opq b) (λ _ m=>m.qD.elim) (λ h _ i m=>.tup (e.sD h) (i m.iR)) (λ _ _ _ m=>m.lst_inv.elim) (λ _=>.nil) (λ _ _ i j m=>.cons (i m.inv.1) (j m.inv.2)) h
theorem Iss.text (e:jS H H'){v:List V}{d:List Dt}(h:Iss K H v d):n_ d->Iss K H' v d :=
 Iss.rec (motive_1:=λ v d _=>Imm d->Is K H' v d) (motive_2:=λ v d _=>n_ d->Iss K H' v d) (λ _=>.non) (λ b _=>.bl b) (λ b _=>.int b) (λ b _=>.str b) (λ b _=>.ty b) (λ b _=>.opq b) (λ _ m=>m.qD.elim) (λ h _ i m=>.tup (e.sD h) (i m.iR)) (λ _ _ _ m=>m.lst_inv.elim) (λ _=>.nil) (λ _ _ i j m=>.cons (i m.inv.1) (j m.inv.2)) h
theorem n_.of {ds:List Dt}(h:∀ d∈ds,Imm d):n_ ds:=by
 induction ds with
 | nil=>exact .nil
 | cons d r ih=>exact .cons (h d av) (ih λ x hx=>h x (ar _ hx))
theorem Iss.length {vs:List V}{ds:List Dt}(h:Iss K H vs ds):vs.length=ds.length:=by
 induction ds generalizing vs with
 | nil=>cases h;rfl
 | cons d r ih=>cases h with | cons h1 h2=>simp[ih h2]
theorem Iss.get {vs:List V}{ds:List Dt}(h:Iss K H vs ds){i:Nat}{d:Dt}(e:ds[i]?=kb d):∃ v,vs[i]?=kb v/\Is K H v d:=by
 induction ds generalizing vs i with
 | nil=>simp at e
 | cons c r ih =>
  cases h with
  | cons h1 h2 =>
   cases i with
   | zero=>simp at e;subst e;exact⟨_,rfl,h1⟩
   | succ i=>obtain⟨v,a,b⟩:=ih h2 (i:=i) (by simpa using e);exact⟨v,by simpa using a,b⟩
theorem Iss.append {vs ws:List V}{ds es:List Dt}(h:Iss K H vs ds)(h':Iss K H ws es):Iss K H (vs++ws) (ds++es):=by
 induction ds generalizing vs with
 | nil=>cases h;exact h'
 | cons d r ih=>cases h with | cons h1 h2=>exact .cons h1 (ih h2)
theorem Iss.snoc {vs:List V}{ds:List Dt}{v:V}{d:Dt}(h:Iss K H vs ds)(h':Is K H v d):Iss K H (vs++[v]) (ds++[d]):=h.append (.cons h' .nil)
theorem Iss.ints {vs:List V}:∀ {ns:List Int},Iss K H vs (ns.map .int)->vs=ns.map V.int:=by
 intro ns h;induction ns generalizing vs with
 | nil=>cases h;rfl
 | cons d r ih=>cases h with | cons h1 h2=>cases h1;rw[ih h2];rfl
theorem Iss.Fj (ns:List Int):Iss K H (ns.map V.int) (ns.map .int):=by
 induction ns with
 | nil=>exact .nil
 | cons d r ih=>exact .cons (.int d) ih
end
abbrev DE:=List (g6 Dt)
structure Sat (K:g9)(H:Hp)(σ:St)(δ:DE):Prop where
 len:σ.length=δ.length
 at_:∀ (i:Nat) (d:Dt),δ[i]?=kb (kb d)->∃ v,σ[i]?=kb (kb v)/\Is K H v d
section
variable {K:g9}{H H':Hp}{σ:St}{δ:DE}
theorem Sat.ext (e:iA H H')(h:Sat K H σ δ):Sat K H' σ δ:=⟨h.len,λ i d q=>let ⟨v,a,b⟩:=h.at_ i d q;⟨v,a,b.ext e⟩⟩
theorem Sat.set {i:Nat}{v:V}{d:Dt}(h:Sat K H σ δ)(q:Is K H v d):Sat K H (σ.set i (kb v)) (δ.set i (kb d)):=by
 refine⟨by simp[h.len],λ j e hj=>?_⟩;by_cases hij:i=j
 ·subst hij
  by_cases hi:i<δ.length
  ·rw[cu hi]at hj;cases hj;exact⟨v,by rw[cu (by rw[h.len];exact hi)],q⟩
  ·rw[bu (by simp;lia)]at hj;cases hj
 ·rw[bK hij]at hj;rw[bK hij];exact h.at_ j e hj
theorem Sat.comp {own:List Str}{ix:List Nat}(h:Sat K H σ δ):Sat K H (jo own ix σ) (own.map (λ _=>My)++ix.map λ i=>(δ[i]?).getD My):=by
 refine⟨by simp[jo],λ j e hj=>?_⟩;have hl:own.length<=j:=by
  refine fv λ hlt=>?_;rw[br (by simpa using hlt),aD]at hj;cases q:own[j]? with
  | none=>rw[q]at hj;cases hj
  | some a=>rw[q]at hj;cases hj
 unfold jo;rw[bE (by simpa using hl),aD,ak]at hj ⊢;cases q:ix[j-own.length]? with
 | none=>rw[q]at hj;cases hj
 | some i =>
  rw[q]at hj;have hj:(δ[i]?).getD My=kb e:=aF hj;have:δ[i]?=kb (kb e):=by
   cases r:δ[i]? with
   | none=>rw[r]at hj;cases hj
   | some w=>rw[r]at hj;exact cG kb hj
  obtain⟨v,a,b⟩:=h.at_ i e this;exact⟨v,by rw[cq,a];rfl,b⟩
theorem Iss.start {N:List Str}{vs:List V}{ds:List Dt}(h:Iss K H vs ds):Sat K H (start N vs) (ds.map kb++V3 (N.length-ds.length) My):=by
 refine⟨by simp[L2.start,h.length],λ j e hj=>?_⟩;unfold L2.start;by_cases hlt:j<ds.length
 ·rw[br (by simpa using hlt),aD]at hj
  obtain⟨v,a,b⟩:=h.get (i:=j) (d:=e) (by
   cases q:ds[j]? with
   | none=>rw[q]at hj;cases hj
   | some w=>rw[q]at hj;cases hj;rfl)
  exact⟨v,by rw[br (by rw[ak,h.length];exact hlt),aD,a];rfl,b⟩
 ·rw[bE (by simpa using fv hlt),List.getElem?_replicate]at hj;split at hj<;>cases hj
end
def tD (K:g9)(g:DE->g6 Dt):TE:=λ σ H Q=>∃ δ d,Sat K H σ δ/\g δ=kb d/\∀ v H',iA H H'->Is K H' v d->Q v H'
def tDT (K:g9)(g:DE->g6 Bool):TT:=λ σ H Q=>∃ δ b,Sat K H σ δ/\g δ=kb b/\∀ H',iA H H'->Q b H'
def tDs (K:g9)(g:DE->g6 (List Dt)):TA:=λ σ H Q=>∃ δ ds,Sat K H σ δ/\g δ=kb ds/\∀ vs H',iA H H'->Iss K H' vs ds->Q vs H'
def rD (K:g9)(f:Dt->Dt->g6 Dt):R2:=λ x y H Q=>∃ dx dy d,Is K H x dx/\Is K H y dy/\f dx dy=kb d/\∀ v H',iA H H'->Is K H' v d->Q v H'
def cD (K:g9)(f:List Dt->g6 Dt):List V->Hp->VK->Prop:=λ xs H Q=>∃ ds d,Iss K H xs ds/\f ds=kb d/\∀ v H',iA H H'->Is K H' v d->Q v H'
def spD (K:g9)(n:Nat)(f:List Dt->g6 Dt):Sp:=λ xs H Q _=>∃ ds d,ds.length=n/\Iss K H xs ds/\f ds=kb d/\∀ v H',iA H H'->Is K H' v d->Q v H'
def hW (i:Nat):DE->g6 Dt:=λ δ=>(δ[i]?).join
def gC (d:Dt):DE->g6 Dt:=λ _=>kb d
def iG (f:Dt->Dt->g6 Dt)(a b:DE->g6 Dt):DE->g6 Dt:=λ δ=>(a δ).bind λ x=>(b δ).bind λ y=>f x y
def hX:DE->g6 (List Dt):=λ _=>kb []
section
variable {X:Cx}{e a b c:Expr}{es:List Expr}{pos:Pos}
theorem PE.of {t t':TE}(h:PE X e t)(w:∀ σ H Q,t' σ H Q->t σ H Q):PE X e t':=λ pins s σ H Q I q=>h pins s σ H Q I (w σ H Q q)
theorem PT.of {t t':TT}(h:PT X e t)(w:∀ σ H Q,t' σ H Q->t σ H Q):PT X e t':=λ pins s σ H Q I q=>h pins s σ H Q I (w σ H Q q)
theorem PW.of {t t':TT}(h:PW X e t)(w:∀ σ H Q,t' σ H Q->t σ H Q):PW X e t':=λ wh pins s σ H Q I q=>h wh pins s σ H Q I (w σ H Q q)
theorem PA.of {t t':TA}(h:PA X es t)(w:∀ σ H Q,t' σ H Q->t σ H Q):PA X es t':=λ p pins s σ H Q I q=>h p pins s σ H Q I (w σ H Q q)
theorem PS.of {st:Stmt}{t t':TS}(h:PS X st t)(w:∀ D σ H,t' D σ H->t D σ H):PS X st t':=λ pins s σ H D I q=>h pins s σ H D I (w D σ H q)
theorem PSs.of {st:List Stmt}{t t':TS}(h:PSs X st t)(w:∀ D σ H,t' D σ H->t D σ H):PSs X st t':=λ pins s σ H D I q=>h pins s σ H D I (w D σ H q)
abbrev PD (X:Cx)(e:Expr)(g:DE->g6 Dt):Prop:=PE X e (tD X.K g)
abbrev PDT (X:Cx)(e:Expr)(g:DE->g6 Bool):Prop:=PT X e (tDT X.K g)
abbrev PDW (X:Cx)(e:Expr)(g:DE->g6 Bool):Prop:=PW X e (tDT X.K g)
abbrev PDs (X:Cx)(es:List Expr)(g:DE->g6 (List Dt)):Prop:=PA X es (tDs X.K g)
theorem IH {i:Nat}{δ:DE}{d:Dt}(h:hW i δ=kb d):δ[i]?=kb (kb d):=by
 unfold hW at h;cases q:δ[i]? with
 | none=>rw[q]at h;cases h
 | some w=>rw[q]at h;exact cG kb h
theorem dv (i:Nat){x:Str}(hN:X.N[i]?=kb x:=by rfl)(hv:Vis X.env.scope x:=by trivial)(hd:(x==("__debug__":Str))=V1:=by decide)
  (hcd:(x==("__classdict__":Str))=V1:=by decide):PD X (.Name x pos) (hW i) :=
 (HI hN hv hd hcd).of λ σ H Q hz1=>by obtain⟨δ,d,S,e,q⟩:=hz1;obtain⟨v,h1,h2⟩:=S.at_ i d (IH e);exact⟨v,h1,q v H (iA.refl H) h2⟩
theorem iZ {i:Int}{j}:PD X (.Constant (.int i) j pos) (gC (.int i)):=iS.of λ σ H Q ⟨δ,d,S,e,q⟩=>by cases e;exact q _ H (iA.refl H) (.int i)
theorem vB {i:Bool}{j}:PD X (.Constant (.bool i) j pos) (gC (.bl i)):=Nz.of λ σ H Q ⟨δ,d,S,e,q⟩=>by cases e;exact q _ H (iA.refl H) (.bl i)
theorem II {j}:PD X (.Constant .none j pos) (gC .non):=OP.of λ σ H Q ⟨δ,d,S,e,q⟩=>by cases e;exact q _ H (iA.refl H) .non
theorem u6 {x:Str}{j}:PD X (.Constant (.str x) j pos) (gC (.str x)):=OQ.of λ σ H Q ⟨δ,d,S,e,q⟩=>by cases e;exact q _ H (iA.refl H) (.str x)
theorem Pq {x:Str}{u:g_}{v:V}{d:Dt}(hm:X.mg x=kb u)(r:RelV v u)(hI:∀ H,Is X.K H v d)(hg:Gl X x:=by rfl)(hd:(x==("__debug__":Str))=V1:=by decide):PD X (.Name x pos) (gC d) :=
 (EO hg hm r hd).of λ σ H Q ⟨δ,d',S,e,q⟩=>by cases e;exact q _ H (iA.refl H) (hI H)
theorem IJ {x:Str}{T:String}(hm:X.mg x=My)(hv:bootBuiltins x=kb (.type T))(hg:Gl X x:=by rfl)(hn:x≠"__name__":=by decide)(hd:(x==("__debug__":Str))=V1:=by decide):PD X (.Name x pos) (gC (.ty T)) :=
 (ER (v:=.ty T) hg hm hv rfl hn hd).of λ σ H Q ⟨δ,d',S,e,q⟩=>by cases e;exact q _ H (iA.refl H) (.ty T)
theorem sE {f:Dt->Dt->g6 Dt}{ga gb:DE->g6 Dt}{δ:DE}{d:Dt}(h:iG f ga gb δ=kb d):∃ x y,ga δ=kb x/\gb δ=kb y/\f x y=kb d:=by
 unfold iG at h;cases p:ga δ with
 | none=>rw[p]at h;cases h
 | some x =>
  rw[p]at h;cases q:gb δ with
  | none=>rw[af,q]at h;cases h
  | some y=>rw[af,q,af]at h;exact⟨x,y,rfl,rfl,h⟩
theorem z8 {K:g9}{f:Dt->Dt->g6 Dt}{ga gb:DE->g6 Dt}(σ:St)(H:Hp)(Q:VK)(h:tD K (iG f ga gb) σ H Q):tOp (rD K f) (tD K ga) (tD K gb) σ H Q:=by obtain⟨δ,d,S,e,q⟩:=h;obtain⟨x,y,e1,e2,e3⟩:=sE e;refine⟨δ,x,S,e1,λ v H1 s1 i1=>⟨δ,y,S.ext s1,e2,λ w H2 s2 i2=>⟨x,y,d,i1.ext s2,i2,e3,λ u H3 s3 i3=>q u H3 ((s1.trans s2).trans s3) i3⟩⟩⟩
theorem lq {op:Operator}{f:Dt->Dt->g6 Dt}{ga gb:DE->g6 Dt}(ho:OpR X (binaryOp op) (rD X.K f))(ha:PD X a ga)(hb:PD X b gb):PD X (.BinOp a op b pos) (iG f ga gb):=(jD ho ha hb).of z8
theorem u7 {op:CmpOp}{f:Dt->Dt->g6 Dt}{ga gb:DE->g6 Dt}(ho:OpR X (compareOp op) (rD X.K f))(ha:PD X a ga)(hb:PD X b gb)(hm:behindInMarks op b=V1:=by first | exact wa _ | with_unfolding_all rfl):PD X (.Compare a [op] [b] pos) (iG f ga gb):=(Lv ho ha hb hm).of z8
def asB:Dt->g6 Bool
 | .bl b=>kb b
 | _=>My
theorem z_ {d:Dt}{b:Bool}(h:asB d=kb b):d=.bl b:=by cases d<;>simp[asB]at h;rw[h]
def gB (g:DE->g6 Dt):DE->g6 Bool:=λ δ=>(g δ).bind asB
theorem DG {g:DE->g6 Dt}{δ:DE}{b:Bool}(h:gB g δ=kb b):g δ=kb (.bl b):=by
 unfold gB at h;cases p:g δ with
 | none=>rw[p]at h;cases h
 | some x=>rw[p]at h;rw[z_ h]
theorem Is.kT {K:g9}{H:Hp}{v:V}{b:Bool}(h:Is K H v (.bl b)):v=.bl b:=by cases h;rfl
theorem Is.int_inv {K:g9}{H:Hp}{v:V}{b:Int}(h:Is K H v (.int b)):v=.int b:=by cases h;rfl
theorem Is.str_inv {K:g9}{H:Hp}{v:V}{b:Str}(h:Is K H v (.str b)):v=.str b:=by cases h;rfl
theorem Is.LS {K:g9}{H:Hp}{v:V}{b:V}(h:Is K H v (.opq b)):v=b:=by cases h;rfl
theorem Is.Pr {K:g9}{H:Hp}{v:V}{b:String}(h:Is K H v (.ty b)):v=.ty b:=by cases h;rfl
theorem Is.Aa {K:g9}{H:Hp}{v:V}(h:Is K H v .non):v=.non:=by cases h;rfl
theorem Is.iR {K:g9}{H:Hp}{v:V}{ds:List Dt}(h:Is K H v (.tup ds)):∃ a xs,v=.ref a/\SqT K H a xs/\Iss K H xs ds:=by cases h;exact⟨_,_,rfl,by assumption,by assumption⟩
theorem Is.qD {K:g9}{H:Hp}{v:V}{ds:List (Int×Int)}(h:Is K H v (.dct ds)):∃ a,v=.ref a/\Rd H a (.dK (kvD ds)):=by cases h;exact⟨_,rfl,by assumption⟩
theorem Is.lst_inv {K:g9}{H:Hp}{v:V}{ds:List Dt}(h:Is K H v (.lst ds)):∃ a xs,v=.ref a/\H a=kb (.lst xs)/\Iss K H xs ds:=by cases h;exact⟨_,_,rfl,by assumption,by assumption⟩
theorem NR {K:g9}{g:DE->g6 Dt}(σ:St)(H:Hp)(Q:Bool->Hp->Prop)(h:tDT K (gB g) σ H Q):tD K g σ H λ x H'=>∃ k,x=.bl k/\Q k H':=by obtain⟨δ,b,S,e,q⟩:=h;exact⟨δ,_,S,DG e,λ v H1 s1 i1=>⟨b,i1.kT,q H1 s1⟩⟩
theorem jK {op:CmpOp}{f:Dt->Dt->g6 Dt}{ga gb:DE->g6 Dt}(ho:OpR X (compareOp op) (rD X.K f))(ha:PD X a ga)(hb:PD X b gb)(hm:behindInMarks op b=V1:=by first | exact wa _ | with_unfolding_all rfl):PDT X (.Compare a [op] [b] pos) (gB (iG f ga gb)) :=
 (vL ho ha hb hm).of λ σ H Q h=>z8 σ H _ (NR σ H Q h)
def uc (f f':Dt->Dt->g6 Dt)(ga gb gc:DE->g6 Dt):DE->g6 Dt:=λ δ=>(ga δ).bind λ x=>(gb δ).bind λ y=>(f x y).bind λ z=>(asB z).bind λ k=>if k=V0 then (gc δ).bind λ w=>f' y w else kb (.bl V1)
theorem hZ {α β:Type}{o:g6 α}{f:α->g6 β}{b:β}(h:o.bind f=kb b):∃ a,o=kb a/\f a=kb b:=by
 cases o with
 | none=>cases h
 | some a=>exact⟨a,rfl,h⟩
theorem BC {K:g9}{f f':Dt->Dt->g6 Dt}{ga gb gc:DE->g6 Dt}(σ:St)(H:Hp)(Q:VK)(h:tD K (uc f f' ga gb gc) σ H Q):De (rD K f) (rD K f') (tD K ga) (tD K gb) (tD K gc) σ H Q:=by
 obtain⟨δ,d,S,e,q⟩:=h;obtain⟨x,e1,e⟩:=hZ e;obtain⟨y,e2,e⟩:=hZ e;obtain⟨z,e3,e⟩:=hZ e;obtain⟨k,e4,e⟩:=hZ e;have e4:=z_ e4;subst e4;refine⟨δ,x,S,e1,λ v H1 s1 i1=>⟨δ,y,S.ext s1,e2,λ w H2 s2 i2=>⟨x,y,_,i1.ext s2,i2,e3,λ u H3 s3 i3=>⟨k,i3.kT,?_⟩⟩⟩⟩;cases k with
 | true =>obtain⟨w',e5,e6⟩:=hZ (show(gc δ).bind _=_ from e);rw[ae rfl];exact⟨δ,w',S.ext ((s1.trans s2).trans s3),e5,λ u' H4 s4 i4=>⟨y,w',d,(i2.ext s3).ext s4,i4,e6,λ u5 H5 s5 i5=>q u5 H5 ((((s1.trans s2).trans s3).trans s4).trans s5) i5⟩⟩
 | false =>rw[ag ax];cases (show kb (Dt.bl V1)=kb d from e);exact q _ H3 ((s1.trans s2).trans s3) (.bl V1)
theorem LU {op op':CmpOp}{f f':Dt->Dt->g6 Dt}{ga gb gc:DE->g6 Dt}(ho:OpR X (compareOp op) (rD X.K f))(ho':OpR X (compareOp op') (rD X.K f'))(ha:PD X a ga)(hb:PD X b gb)(hc:PD X c gc)
  (hm:lastMarks [op,op'] [b,c]=V1:=by with_unfolding_all rfl):PD X (.Compare a [op,op'] [b,c] pos) (uc f f' ga gb gc):=(HX ho ho' ha hb hc hm).of BC
theorem IK {op op':CmpOp}{f f':Dt->Dt->g6 Dt}{ga gb gc:DE->g6 Dt}(ho:OpR X (compareOp op) (rD X.K f))(ho':OpR X (compareOp op') (rD X.K f'))(ha:PD X a ga)(hb:PD X b gb)(hc:PD X c gc)
  (hm:lastMarks [op,op'] [b,c]=V1:=by with_unfolding_all rfl):PDT X (.Compare a [op,op'] [b,c] pos) (gB (uc f f' ga gb gc)):=(HY ho ho' ha hb hc hm).of λ σ H Q h=>BC σ H _ (NR σ H Q h)
def wV (ga gb:DE->g6 Dt):DE->g6 Dt:=λ δ=>(gB ga δ).bind λ k=>if k=V0 then gb δ else kb (.bl V1)
def gOr (ga gb:DE->g6 Dt):DE->g6 Dt:=λ δ=>(gB ga δ).bind λ k=>if k=V0 then kb (.bl V0) else gb δ
def Pt (ga:DE->g6 Dt):DE->g6 Dt:=λ δ=>(gB ga δ).map λ k=>.bl (!k)
theorem BD {op}{g:DE->g6 Dt}(h:PD X a g):PD X (.BoolOp op [a] pos) g:=OT h
theorem ze {rest:List Expr}{ga gb:DE->g6 Dt}(ha:PD X a ga)(hb:PD X (.BoolOp .And (b::rest) pos) gb):PD X (.BoolOp .And (a::b::rest) pos) (wV ga gb) :=
 (OU ha hb).of λ σ H Q hz2=>by
  obtain⟨δ,d,S,e,q⟩:=hz2;obtain⟨k,e1,e⟩:=hZ e;refine⟨δ,_,S,DG e1,λ v H1 s1 i1=>⟨k,i1.kT,?_⟩⟩;cases k with
  | true=>rw[ae rfl]at e ⊢;exact⟨δ,d,S.ext s1,e,λ u H2 s2 i2=>q u H2 (s1.trans s2) i2⟩
  | false=>rw[ag ax]at e ⊢;cases e;exact q _ H1 s1 (.bl V1)
theorem iP {α β:Type}{o:g6 α}{f:α->β}{b:β}(h:o.map f=kb b):∃ a,o=kb a/\f a=b:=by
 cases o with
 | none=>cases h
 | some a=>exact⟨a,rfl,aF h⟩
theorem RM {ga:DE->g6 Dt}(ha:PD X a ga):PD X (.UnaryOp .Not a pos) (Pt ga) :=
 (OV ha).of λ σ H Q hz4=>by obtain⟨δ,d,S,e,q⟩:=hz4;obtain⟨k,e1,e⟩:=iP e;subst e;exact⟨δ,_,S,DG e1,λ v H1 s1 i1=>⟨k,i1.kT,q _ H1 s1 (.bl _)⟩⟩
def IL (ga gb:DE->g6 Bool):DE->g6 Bool:=λ δ=>(ga δ).bind λ k=>if k=V0 then gb δ else kb V1
def pU (ga gb:DE->g6 Bool):DE->g6 Bool:=λ δ=>(ga δ).bind λ k=>if k=V0 then kb V0 else gb δ
def kr (ga:DE->g6 Bool):DE->g6 Bool:=λ δ=>(ga δ).map (!·)
theorem kU {ga:DE->g6 Bool}(ha:PDT X a ga):PDT X (.UnaryOp .Not a pos) (kr ga) :=
 (HL ha).of λ σ H Q hz5=>by obtain⟨δ,d,S,e,q⟩:=hz5;obtain⟨k,e1,e⟩:=iP e;subst e;exact⟨δ,_,S,e1,λ H1 s1=>q H1 s1⟩
theorem LV {ga:DE->g6 Bool}(ha:PDT X a ga):PDW X (.BoolOp .And [a] pos) ga:=Lo ha
theorem pV {ga:DE->g6 Bool}(ha:PDT X a ga):PDW X (.BoolOp .Or [a] pos) ga:=HK ha
theorem Pu {rest:List Expr}{ga gb:DE->g6 Bool}(ha:PDT X a ga)(hb:PDW X (.BoolOp .And (b::rest) pos) gb):PDW X (.BoolOp .And (a::b::rest) pos) (IL ga gb) :=
 (OS ha hb).of λ σ H Q hz6=>by
  obtain⟨δ,d,S,e,q⟩:=hz6;obtain⟨k,e1,e⟩:=hZ e;refine⟨δ,_,S,e1,λ H1 s1=>?_⟩;cases k with
  | true=>rw[ae rfl]at e ⊢;exact⟨δ,d,S.ext s1,e,λ H2 s2=>q H2 (s1.trans s2)⟩
  | false=>rw[ag ax]at e ⊢;cases e;exact q H1 s1
theorem u9 {rest:List Expr}{ga gb:DE->g6 Bool}(ha:PDT X a ga)(hb:PDW X (.BoolOp .Or (b::rest) pos) gb):PDW X (.BoolOp .Or (a::b::rest) pos) (pU ga gb) :=
 (NA ha hb).of λ σ H Q hz7=>by
  obtain⟨δ,d,S,e,q⟩:=hz7;obtain⟨k,e1,e⟩:=hZ e;refine⟨δ,_,S,e1,λ H1 s1=>?_⟩;cases k with
  | false=>rw[ag ax]at e ⊢;exact⟨δ,d,S.ext s1,e,λ H2 s2=>q H2 (s1.trans s2)⟩
  | true=>rw[ae rfl]at e ⊢;cases e;exact q H1 s1
theorem Ab {ga:DE->g6 Bool}(h:PDW X a ga):PDT X a ga:=h.pt
def gIf (gc:DE->g6 Bool)(ga gb:DE->g6 Dt):DE->g6 Dt:=λ δ=>(gc δ).bind λ k=>if k=V0 then ga δ else gb δ
theorem Pw {gc:DE->g6 Bool}{ga gb:DE->g6 Dt}(hc:PDT X c gc)(ha:PD X a ga)(hb:PD X b gb):PD X (.IfExp c a b pos) (gIf gc ga gb) :=
 (HM hc ha hb).of λ σ H Q hz8=>by
  obtain⟨δ,d,S,e,q⟩:=hz8;obtain⟨k,e1,e⟩:=hZ e;refine⟨δ,_,S,e1,λ H1 s1=>?_⟩;cases k with
  | true=>rw[ae rfl]at e ⊢;exact⟨δ,d,S.ext s1,e,λ u H2 s2 i2=>q u H2 (s1.trans s2) i2⟩
  | false=>rw[ag ax]at e ⊢;exact⟨δ,d,S.ext s1,e,λ u H2 s2 i2=>q u H2 (s1.trans s2) i2⟩
def IM:Dt->g6 Bool
 | .non=>kb V1
 | .bl b=>kb b
 | .int i=>kb (i != 0)
 | .str x=>if x.length<=1000 then kb ((x.length:Int) != 0) else My
 | .ty _=>My
 | .opq _=>My
 | .dct _=>My
 | .tup ds=>kb (!ds.isEmpty)
 | .lst ds=>kb (!ds.isEmpty)
theorem qE {n:Nat}(h:n<=1000):n<=sizeLine:=by rw[sizeLine_eq];lia
theorem Iss.isEmpty {K:g9}{H:Hp}{vs:List V}{ds:List Dt}(h:Iss K H vs ds):vs.isEmpty=ds.isEmpty:=by cases h<;>rfl
set_option tactic.hygienic true in
theorem LW {K:g9}{H:Hp}{v:V}{d:Dt}{k:Bool}(h:Is K H v d)(e:IM d=kb k):Lw K v H k:=by
 cases h with
 | non=>cases e;rfl
 | bl b=>cases e;rfl
 | int b=>cases e;rfl
 | ty n=>cases e
 | opq n=>cases e
 | dct h=>cases e
 | str x =>
  have e:(if x.length<=1000 then kb ((x.length:Int) != 0) else My)=kb k:=e;split at e
  ·rename_i h;cases e;exact⟨qE h,rfl⟩
  ·cases e
 | tup h1 h2=>cases e;exact .inr (.inl ⟨_,h1,by rw[h2.isEmpty]⟩)
 | lst h1 h2=>cases e;exact .inl ⟨_,SqL.of h1,by rw[h2.isEmpty]⟩
def gTr (g:DE->g6 Dt):DE->g6 Bool:=λ δ=>(g δ).bind IM
theorem ku {g:DE->g6 Dt}(h:PD X e g)(he:∀ whole,isTrue e X.env whole=(do let v<-whole;standAt e.pos;holding [v] (truthy v)):=by intro _;rfl):PDT X e (gTr g) :=
 (Bi h he).of λ σ H Q hz9=>by obtain⟨δ,d,S,e,q⟩:=hz9;obtain⟨x,e1,e2⟩:=hZ e;exact⟨δ,x,S,e1,λ v H1 s1 i1=>⟨d,LW i1 e2,q H1 s1⟩⟩
def hU (g:DE->g6 Dt)(gs:DE->g6 (List Dt)):DE->g6 (List Dt):=λ δ=>(g δ).bind λ x=>(gs δ).map λ r=>x::r
theorem ie:PDs X [] hX:=iM.of λ σ H Q ⟨δ,d,S,e,q⟩=>by cases e;exact q [] H (iA.refl H) .nil
theorem hV {g:DE->g6 Dt}{gs:DE->g6 (List Dt)}(ha:PD X e g)(hr:PDs X es gs)(hs:starEach (e::es) X.env=(V1,eval e X.env)::starEach es X.env:=by rfl):PDs X (e::es) (hU g gs) :=
 (ic ha hr hs).of λ σ H Q hz10=>by obtain⟨δ,d,S,e,q⟩:=hz10;obtain⟨x,e1,e⟩:=hZ e;obtain⟨r,e2,e⟩:=iP e;subst e;exact⟨δ,x,S,e1,λ v H1 s1 i1=>⟨δ,r,S.ext s1,e2,λ vs H2 s2 i2=>q (v::vs) H2 (s1.trans s2) (.cons (i1.ext s2) i2)⟩⟩
def jE (gs:DE->g6 (List Dt)):DE->g6 Dt:=λ δ=>(gs δ).bind λ ds=>if ds.length<=1000 then kb (.tup ds) else My
def zh (gs:DE->g6 (List Dt)):DE->g6 Dt:=λ δ=>(gs δ).bind λ ds=>if ds.length<=1000 then kb (.lst ds) else My
set_option tactic.hygienic true in
theorem pW {gs:DE->g6 (List Dt)}{x1}(h:PDs X es gs):PD X (.Tuple es x1 pos) (jE gs) :=
 (tW h).of λ σ H Q hz11=>by
  obtain⟨δ,d,S,e,q⟩:=hz11;obtain⟨ds,e1,e⟩:=hZ e;split at e
  ·cases e;rename_i hl;exact⟨δ,ds,S,e1,λ vs H1 s1 i1=>⟨qE (by rw[i1.length];exact hl),λ p hp=>q _ _ (s1.trans (iA.upd hp)) (.tup (SqT.of ir) (i1.ext (iA.upd hp)))⟩⟩
  ·cases e
set_option tactic.hygienic true in
theorem BE {gs:DE->g6 (List Dt)}(h:PDs X es gs):PD X (.List es pos) (zh gs) :=
 (lx h).of λ σ H Q hz12=>by
  obtain⟨δ,d,S,e,q⟩:=hz12;obtain⟨ds,e1,e⟩:=hZ e;split at e
  ·cases e;rename_i hl;exact⟨δ,ds,S,e1,λ vs H1 s1 i1=>⟨qE (by rw[i1.length];exact hl),λ p hp=>q _ _ (s1.trans (iA.upd hp)) (.lst ir (i1.ext (iA.upd hp)))⟩⟩
  ·cases e
def ju (f:List Dt->g6 Dt)(gs:DE->g6 (List Dt)):DE->g6 Dt:=λ δ=>(gs δ).bind f
theorem NS {K:g9}{f:List Dt->g6 Dt}{gs:DE->g6 (List Dt)}(σ:St)(H:Hp)(Q:VK)(h:tD K (ju f gs) σ H Q):tCB (cD K f) (tDs K gs) σ H Q:=by obtain⟨δ,d,S,e,q⟩:=h;obtain⟨ds,e1,e2⟩:=hZ e;exact⟨δ,ds,S,e1,λ vs H1 s1 i1=>⟨ds,d,i1,e2,λ v H2 s2 i2=>q v H2 (s1.trans s2) i2⟩⟩
theorem jx {x:Str}{p:Pos}{id:String}{f:List Dt->g6 Dt}{gs:DE->g6 (List Dt)}(hc:j3 X (.builtin id) (cD X.K f))(hm:X.mg x=My)(hv:bootBuiltins x=kb (.builtin id))(ha:PDs X (e::es) gs)(hg:Gl X x:=by rfl)(hn:x≠"__name__":=by decide)(hdb:(x==("__debug__":Str))=V1:=by decide)
  (he:starEach (e::es) X.env=(V1,eval e X.env)::starEach es X.env:=by rfl) (hpl:(backTo pos (starEach es X.env)).any (·.1)=V1:=by rfl):PD X (.Call (.Name x p) (e::es) [] pos) (ju f gs):=(kO hc hg hm hv ha hn hdb he hpl).of NS
theorem og {x:Str}{p:Pos}{T:String}{f:List Dt->g6 Dt}{gs:DE->g6 (List Dt)}(hc:j3 X (.type T) (cD X.K f))(hm:X.mg x=My)(hv:bootBuiltins x=kb (.type T))(ha:PDs X (e::es) gs)(hg:Gl X x:=by rfl)(hn:x≠"__name__":=by decide)(hdb:(x==("__debug__":Str))=V1:=by decide)
  (he:starEach (e::es) X.env=(V1,eval e X.env)::starEach es X.env:=by rfl) (hpl:(backTo pos (starEach es X.env)).any (·.1)=V1:=by rfl):PD X (.Call (.Name x p) (e::es) [] pos) (ju f gs):=(nW hc hg hm hv ha hn hdb he hpl).of NS
def ib (n:Nat)(f:List Dt->g6 Dt)(gs:DE->g6 (List Dt)):DE->g6 Dt:=λ δ=>(gs δ).bind λ ds=>if ds.length=n then f ds else My
set_option tactic.hygienic true in
theorem Px {x:Str}{p:Pos}{k n:Nat}{f:Addr}{fd:FuncData}{ps:List Str}{fD:List Dt->g6 Dt}{gs:DE->g6 (List Dt)}(F:oJ X.prog X.w X.K X.mg X.base CX0 k f fd ps (spD X.K n fD))(hr:kN k X.A)(hm:X.mg x=kb (.ref f))(hk:PySem.W.keepIn X.K (.ref f)=V0)(hb:Binds X.K fd ps [])
  (ha:PDs X (e::es) gs) (hg:Gl X x:=by rfl) (hdb:(x==("__debug__":Str))=V1:=by decide) (he:starEach (e::es) X.env=(V1,eval e X.env)::starEach es X.env:=by rfl) (hpl:(backTo pos (starEach es X.env)).any (·.1)=V1:=by rfl) :
  PD X (.Call (.Name x p) (e::es) [] pos) (ib n fD gs) :=
 (zR F hr hg hm hk hb .nil NL ha hdb he hpl).of λ σ H Q hz13=>by
  obtain⟨δ,d,S,e,q⟩:=hz13;obtain⟨ds,e1,e2⟩:=hZ e;split at e2
  ·rename_i hl;exact⟨δ,ds,S,e1,λ vs H1 s1 i1=>by show spD X.K n fD (vs++[]) H1 Q E0;rw[bH];exact⟨ds,d,hl,i1,e2,λ v H2 s2 i2=>q v H2 (s1.trans s2) i2⟩⟩
  ·cases e2
end
end L2
namespace Zp
open PySem PySem.Spec PyProof.Rows
section
variable {prog:Program}{w:World}{A:Around}{E:g0}{s:hE}
theorem LX {j t:Addr}{k:Nat}{arr:Array g_}{y:g_}{Q:g0}(hj:s.heap.IsTupleIter j t k)(ht:s.heap.IsTuple t arr)(hy:arr[k]?=kb y)
  (fin:∀ g,g.IsTupleIter j t (k+1)->Heap.SameBut j s.heap g->Q y {s with heap:=g}):wpAny (model prog w) A (Builtin.SmallTypes.nextOf (.ref j)) Q E s:=by
 have hty:=hj.typeIs;obtain⟨oj,gj,cj,dj⟩:=hj;obtain⟨ot,gt,_,nt,dt⟩:=ht;unfold Builtin.SmallTypes.nextOf;refine aa (bS (name:=Str.ofString "__next__") hty dz (bV dz hty F.entry_tuple_iterator_next ?_ (F.args_tuple_iterator_next_1 _)));show wpAny _ _ (field (.ref j) 0>>=_) _ _ s;refine aa (b_ gj dj (x:=.ref t) rfl ?_);show wpAny _ _ (if (Value.ref t==Value.none)=V0 then _ else _) _ _ s;rw[ag (show ¬ (Value.ref t==Value.none)=V0 from λ q=>ax q)];show wpAny _ _ (field (.ref j) 1>>=_) _ _ s;refine aa (b_ gj dj (x:=.int k 0) rfl ?_);show wpAny _ _ (seqItems? (.ref t)>>=_) _ _ s;refine aa (cK gt dt ?_);simp only[hy,cH];refine aa (fh gj dj (by simp) (ah ⟨y,rfl,ah (fin _ ⟨_,dE _ gj (ft (dw dj _)),(gx ..).trans cj,?_⟩ (cN ..))⟩));rw[dw dj];simp[rawInt]
theorem DI {j t:Addr}{k:Nat}{arr:Array g_}{Q:g0}(hh:A.handled=My)(hj:s.heap.IsTupleIter j t k)(ht:s.heap.IsTuple t arr)(hy:arr[k]?=My)
  (fin:∀ g e,Heap.ExtBut j s.heap g->(∃ o,g.get? e=kb o/\o.cls=.type "StopIteration")->E (.ref e) {s with heap:=g}):wpAny (model prog w) A (Builtin.SmallTypes.nextOf (.ref j)) Q E s:=by
 have hty:=hj.typeIs;obtain⟨oj,gj,cj,dj⟩:=hj;obtain⟨ot,gt,_,nt,dt⟩:=ht;unfold Builtin.SmallTypes.nextOf;refine aa (bS (name:=Str.ofString "__next__") hty dz (bV dz hty F.entry_tuple_iterator_next ?_ (F.args_tuple_iterator_next_1 _)));show wpAny _ _ (field (.ref j) 0>>=_) _ _ s;refine aa (b_ gj dj (x:=.ref t) rfl ?_);show wpAny _ _ (if (Value.ref t==Value.none)=V0 then _ else _) _ _ s;rw[ag (show ¬ (Value.ref t==Value.none)=V0 from λ q=>ax q)];show wpAny _ _ (field (.ref j) 1>>=_) _ _ s;refine aa (b_ gj dj (x:=.int k 0) rfl ?_);show wpAny _ _ (seqItems? (.ref t)>>=_) _ _ s;refine aa (cK gt dt ?_);simp only[hy,cH];refine aa (fu (aa (fh gj dj (by simp) (show wpAny _ _ (newExc (.type "StopIteration") []>>=_) _ _ _ from aa ?_))));simp only[newTuple,newExc];refine aa (bL (aa (m:=firstArgMember _ _) (wpAny_of_eq (a:=Value.none) (by first | rfl | (simp only[firstArgMember];rfl)) (bL ?_ (by size_fits)))) (by size_fits));simp only[raiseNew];refine aa (wpAny_handled ?_);first | rw[hh] | rw[show A.in1.handled=My from hh]
 exact aa (ah (wpAny_throw (fin _ _ (((cN ..).extBut.push _).push _) ⟨_,aK _ rfl,rfl⟩)))
theorem IP (hh:A.handled=My)(j t:Addr)(ne:t≠j)(arr:Array g_):Draws prog w A j [j,t] arr.size (λ i v=>arr[i]?=kb v) (λ i h=>h.IsTupleIter j t i/\h.IsTuple t arr) where
 live:=λ _ _ st=>let ⟨o,ho,_⟩:=st.1;⟨o,ho⟩
 frame:=λ _ _ _ st hk=>⟨let ⟨o,ho,r⟩:=st.1;⟨o,hk j (by simp) o ho,r⟩,let ⟨o,ho,r⟩:=st.2;⟨o,hk t (by simp) o ho,r⟩⟩
 item:=λ i s Q E hi st fin=>LX st.1 st.2 (y:=arr[i]) (by simp[hi]) λ g a b=>fin _ g s.toks (by simp[hi]) ⟨a,st.2.extBut b.extBut ne⟩ b
 done:=λ s Q E st fin=>DI hh st.1 st.2 (by simp) fin
structure Ap (z T O i j:Addr)(f g:List Addr):Prop where
 Tz:T≠z
 Oz:O≠z
 TO:T≠O
 iz:i≠z
 jz:j≠z
 Ti:T≠i
 Tj:T≠j
 Oi:O≠i
 Oj:O≠j
 ij:i≠j
 zf:z∉f
 zg:z∉g
 Of:O∉f
 Og:O∉g
 jf:j∉f
 ig:i∉g
variable {z T O i j:Addr}{f g:List Addr}{n m:Nat}{P R:Nat->g_->Prop}{S U:Nat->Heap->Prop}
theorem RN (ap:Ap z T O i j f g)(C:Draws prog w A i f n P S)(D:Draws prog w A j g m R U){k:Nat}{a b:g_}{Q:g0}(hn:k<n)(hm:k<m)
  (hz:IsZip s.heap z T O .none) (hT:IsPair s.heap T (.ref i) (.ref j)) (hO:IsPair s.heap O a b) (h1:S k s.heap) (h2:U k s.heap)
  (fin:∀ h' N tk x y,P k x->R k y->s.heap.objs.size<=N->IsZip h' z T O (rawInt N)->IsPair h' O x y->S (k+1) h'->U (k+1) h'->IsPair h' N x y ->
   (∀ c o,c≠z->c≠O->c≠i->c≠j->s.heap.get? c=kb o->h'.get? c=kb o)->Q (.ref N) {s with heap:=h',toks:=tk}) :
  wpAny (model prog w) A (Builtin.«zip.__next__» ⟨[.ref z],[]⟩) (λ fn s'=>∃ v,fn=.done (.ret v)/\Q v s') E s:=by
 show wpAny _ _ (field (.ref z) 2>>=_) _ _ _;refine aa (b_ hz rfl (x:=.bool V1) rfl (show wpAny _ _ (field (.ref z) 3>>=_) _ _ _ from aa (b_ hz rfl (x:=.ref T) rfl (aa (cK hT rfl ?_)))));show wpAny _ _ (Builtin.SmallTypes.ownedTupleIsFree (.ref z)>>=_) _ _ _;refine aa ?_;unfold Builtin.SmallTypes.ownedTupleIsFree;refine aa (b_ hz rfl (x:=.none) rfl (ah ?_));simp only[cJ];refine aa (fu (aa (b_ hz rfl (x:=.ref O) rfl (aa (dB hz (by simp) λ g1 hz1 e1=>?_)))));replace hz1:IsZip g1 z T O .ellipsis:=hz1;refine aa ?_;simp only[List.zipIdx_nil,List.zipIdx_cons,fZ,eW];have z1:∀ {c o},c≠z->s.heap.get? c=kb o->g1.get? c=kb o:=λ hc e=>e1.extBut _ _ hc e;have mem:∀ {c y:Addr} {l:List Addr},y∉l->c∈l->c≠y:=λ hn hm e=>hn (e▸hm);refine aa (aa (fJ (show wpAny _ _ (Builtin.SmallTypes.nextOf (.ref i)>>=_) _ _ _ from aa (C.item k _ _ _ hn (C.frame k _ _ h1 λ c hc o e=>z1 (mem ap.zf hc) e) λ x g2 tk2 px s2 e2=>ah ?_))));have hO2:IsPair g2 O a b:=e2.extBut _ _ ap.Oi (z1 ap.Oz hO);refine aa (cK hO2 rfl (aa (fK hO2 λ g3 hO3 e3=>?_)));replace hO3:IsPair g3 O x b:=hO3;refine aa (wpAny_letGo (ah (aa (aa (fJ ?_)))));show wpAny _ _ (Builtin.SmallTypes.nextOf (.ref j)>>=_) _ _ _;refine aa (D.item k _ _ _ hm (D.frame k _ _ h2 λ c hc o e=>e3.extBut _ _ (mem ap.Og hc) (e2.extBut _ _ (mem ap.ig hc) (z1 (mem ap.zg hc) e))) λ y g4 tk4 py s4 e4=>ah ?_);have hO4:IsPair g4 O x b:=e4.extBut _ _ ap.Oj hO3;refine aa (cK hO4 rfl (aa (fK hO4 λ g5 hO5 e5=>?_)));replace hO5:IsPair g5 O x y:=hO5;refine aa (wpAny_letGo (ah (ah (aa (cK hO5 rfl (aa (wpAny_newTuple ?_)))))));have size5:g5.objs.size=s.heap.objs.size:=by rw[e5.1,e4.1,e3.1,e2.1,e1.1]
 have hz5:IsZip g5 z T O .ellipsis:=e5.extBut _ _ ap.Oz.symm (e4.extBut _ _ ap.jz.symm (e3.extBut _ _ ap.Oz.symm (e2.extBut _ _ ap.iz.symm hz1)));have k5:∀ c o,c≠z->c≠O->c≠i->c≠j->s.heap.get? c=kb o->g5.get? c=kb o:=λ c o q1 q2 q3 q4 e=>e5.extBut _ _ q2 (e4.extBut _ _ q4 (e3.extBut _ _ q2 (e2.extBut _ _ q3 (z1 q1 e))));have s5:S (k+1) g5:=C.frame _ _ _ s2 λ c hc o e=>e5.extBut _ _ (mem ap.Of hc) (e4.extBut _ _ (mem ap.jf hc) (e3.extBut _ _ (mem ap.Of hc) e));have u5:U (k+1) g5:=D.frame _ _ _ s4 λ c hc o e=>e5.extBut _ _ (mem ap.Og hc) e;have zlt:z<g5.objs.size:=aw hz5;show wpAny _ _ (Builtin.SmallTypes.ownedTupleHandOut (.ref z) (.ref g5.objs.size)>>=_) _ _ _;refine aa ?_;unfold Builtin.SmallTypes.ownedTupleHandOut;have hz6:IsZip (g5.push {cls:=.type "tuple",data:=.seq #[x,y]}) z T O .ellipsis:=ai _ hz5;refine aa (dB hz6 (by simp) λ g7 hz7 e7=>?_);replace hz7:IsZip g7 z T O (rawInt g5.objs.size):=hz7;refine dB hz7 (by simp) λ g8 hz8 e8=>ah ⟨_,rfl,?_⟩;have up:∀ c o,c≠z->g5.get? c=kb o->g8.get? c=kb o:=λ c o q e=>e8.extBut _ _ q (e7.extBut _ _ q (ai _ e));exact fin g8 g5.objs.size _ x y px py (fg size5.symm) hz8 (up _ _ ap.Oz hO5) (C.frame _ _ _ s5 λ c hc o e=>up _ _ (mem ap.zf hc) e) (D.frame _ _ _ u5 λ c hc o e=>up _ _ (mem ap.zg hc) e)
  (e8.extBut _ _ (bR zlt) (e7.extBut _ _ (bR zlt) (aK _ rfl))) λ c o q1 q2 q3 q4 e=>up c o q1 (k5 c o q1 q2 q3 q4 e)
theorem zEnd (ap:Ap z T O i j f g)(C:Draws prog w A i f n P S)(D:Draws prog w A j g m R U){k:Nat}{a b:g_}{Q:Fin->hE->Prop}(hk:k=n\/(k<n/\k=m))
  (hz:IsZip s.heap z T O .none) (hT:IsPair s.heap T (.ref i) (.ref j)) (hO:IsPair s.heap O a b) (h1:S k s.heap) (h2:U k s.heap)
  (fin:∀ h' e tk,(∀ c o,c≠z->c≠O->c≠i->c≠j->s.heap.get? c=kb o->h'.get? c=kb o)->(∃ o,h'.get? e=kb o/\o.cls=.type "StopIteration")->E (.ref e) {s with heap:=h',toks:=tk}) :
  wpAny (model prog w) A (Builtin.«zip.__next__» ⟨[.ref z],[]⟩) Q E s:=by
 show wpAny _ _ (field (.ref z) 2>>=_) _ _ _;refine aa (b_ hz rfl (x:=.bool V1) rfl (show wpAny _ _ (field (.ref z) 3>>=_) _ _ _ from aa (b_ hz rfl (x:=.ref T) rfl (aa (cK hT rfl ?_)))));show wpAny _ _ (Builtin.SmallTypes.ownedTupleIsFree (.ref z)>>=_) _ _ _;refine aa ?_;unfold Builtin.SmallTypes.ownedTupleIsFree;refine aa (b_ hz rfl (x:=.none) rfl (ah ?_));simp only[cJ];refine aa (fu (aa (b_ hz rfl (x:=.ref O) rfl (aa (dB hz (by simp) λ g1 hz1 e1=>?_)))));replace hz1:IsZip g1 z T O .ellipsis:=hz1;refine aa ?_;simp only[List.zipIdx_nil,List.zipIdx_cons,fZ,eW];have z1:∀ {c o},c≠z->s.heap.get? c=kb o->g1.get? c=kb o:=λ hc e=>e1.extBut _ _ hc e;have mem:∀ {c y:Addr} {l:List Addr},y∉l->c∈l->c≠y:=λ hn hm e=>hn (e▸hm);have st1:S k g1:=C.frame k _ _ h1 λ c hc o e=>z1 (mem ap.zf hc) e;refine aa (aa (fJ ?_));show wpAny _ _ (Builtin.SmallTypes.nextOf (.ref i)>>=_) _ _ _;rcases hk with rfl | ⟨hn,rfl⟩
 ·refine aa (C.done _ _ _ st1 λ g2 e x2 ⟨oe,he,ce⟩=>?_)
  have hz2:IsZip g2 z T O .ellipsis:=x2 _ _ ap.iz.symm hz1;have ez:e≠z:=λ q=>by subst q;rw[hz2]at he;cases he;simp at ce
  exact dB hz2 (by simp) λ g3 _ e3=>fin g3 e _ (λ c o q1 _ q3 _ x=>e3.extBut _ _ q1 (x2 _ _ q3 (z1 q1 x))) ⟨oe,e3.extBut _ _ ez he,ce⟩
 ·refine aa (C.item k _ _ _ hn st1 λ x g2 tk2 px s2 e2=>ah ?_)
  have hO2:IsPair g2 O a b:=e2.extBut _ _ ap.Oi (z1 ap.Oz hO);refine aa (cK hO2 rfl (aa (fK hO2 λ g3 hO3 e3=>aa (wpAny_letGo (ah (aa (aa (fJ ?_))))))));show wpAny _ _ (Builtin.SmallTypes.nextOf (.ref j)>>=_) _ _ _;refine aa (D.done _ _ _ (D.frame k _ _ h2 λ c hc o e=>e3.extBut _ _ (mem ap.Og hc) (e2.extBut _ _ (mem ap.ig hc) (z1 (mem ap.zg hc) e))) λ g4 e x4 ⟨oe,he,ce⟩=>?_);have hz4:IsZip g4 z T O .ellipsis:=x4 _ _ ap.jz.symm (e3.extBut _ _ ap.Oz.symm (e2.extBut _ _ ap.iz.symm hz1));have ez:e≠z:=λ q=>by subst q;rw[hz4]at he;cases he;simp at ce
  exact dB hz4 (by simp) λ g5 _ e5=>fin g5 e _ (λ c o q1 q2 q3 q4 x=>e5.extBut _ _ q1 (x4 _ _ q4 (e3.extBut _ _ q2 (e2.extBut _ _ q3 (z1 q1 x))))) ⟨oe,e5.extBut _ _ ez he,ce⟩
theorem RO (ap:Ap z T O i j f g)(C:Draws prog w A.in1 i f n P S)(D:Draws prog w A.in1 j g m R U){k:Nat}{a b:g_}{Q:g6 g_->hE->Prop}(hn:k<n)(hm:k<m)
  (hz:IsZip s.heap z T O .none) (hT:IsPair s.heap T (.ref i) (.ref j)) (hO:IsPair s.heap O a b) (h1:S k s.heap) (h2:U k s.heap)
  (fin:∀ h' N tk x y,P k x->R k y->s.heap.objs.size<=N->IsZip h' z T O (rawInt N)->IsPair h' O x y->S (k+1) h'->U (k+1) h'->IsPair h' N x y ->
   (∀ c o,c≠z->c≠O->c≠i->c≠j->s.heap.get? c=kb o->h'.get? c=kb o)->Q (kb (.ref N)) {s with heap:=h',toks:=tk}) :
  wpAny (model prog w) A (pyNext (.ref z)) Q E s:=by
 have ty:s.TypeIs (.ref z) "zip":=⟨_,hz,rfl⟩;unfold pyNext;exact aa (eS (bS (name:=Str.ofString "__next__") ty fO (bV fO ty F.entry_zip_next
  (RN ap C D hn hm hz hT hO h1 h2 λ h' N tk x y q1 q2 q3 q4 q5 q6 q7 q8 q9=>ah (fin h' N tk x y q1 q2 q3 q4 q5 q6 q7 q8 q9)) (F.args_zip_next_1 _))))
theorem RP (ap:Ap z T O i j f g)(C:Draws prog w A.in1 i f n P S)(D:Draws prog w A.in1 j g m R U){k:Nat}{a b:g_}{Q:g6 g_->hE->Prop}(hk:k=n\/(k<n/\k=m))
  (hz:IsZip s.heap z T O .none) (hT:IsPair s.heap T (.ref i) (.ref j)) (hO:IsPair s.heap O a b) (h1:S k s.heap) (h2:U k s.heap)
  (fin:∀ h' tk,(∀ c o,c≠z->c≠O->c≠i->c≠j->s.heap.get? c=kb o->h'.get? c=kb o)->Q My {s with heap:=h',toks:=tk}) :
  wpAny (model prog w) A (pyNext (.ref z)) Q E s:=by
 have ty:s.TypeIs (.ref z) "zip":=⟨_,hz,rfl⟩;unfold pyNext;refine aa (eS (bS (name:=Str.ofString "__next__") ty fO (bV fO ty F.entry_zip_next
  (zEnd ap C D hk hz hT hO h1 h2 λ h' e tk q1 ⟨o,q2,q3⟩=>?_) (F.args_zip_next_1 _))))
 exact aa (wpAny_isInstance (T:="StopIteration") (b:=V0) ⟨o,q2,q3⟩ isSubtype_stop (ah (fin _ _ q1)))
end
open L2
def mh (t:Bool)(a:Addr):Obj:=match t with
 | true=>{cls:=.type "tuple_iterator",data:=.fields #[.ref a,.int 0 0]}
 | false=>{cls:=.type "list_iterator",data:=.fields #[.ref a,.int 0 0]}
def IsB (t:Bool)(h:Heap)(a:Addr)(arr:Array g_):Prop:=match t with
 | true=>h.IsTuple a arr
 | false=>h.IsList a arr
def ItB (t:Bool)(h:Heap)(j a:Addr)(k:Nat):Prop:=match t with
 | true=>h.IsTupleIter j a k
 | false=>h.IsListIter j a k
def SqB (t:Bool)(K:g9)(H:Hp)(a:Addr)(xs:List V):Prop:=match t with
 | true=>SqT K H a xs
 | false=>SqL K H a xs
section
variable {prog:Program}{w:World}{A:Around}{E:g0}{s:hE}
theorem ra {t:Bool}{a:Addr}{arr:Array g_}{Q:g0}(h:IsB t s.heap a arr)(q:Q (.ref s.heap.objs.size) {s with heap:=s.heap.push (mh t a)}):wpAny (model prog w) A (pyIter (.ref a)) Q E s:=by
 cases t with
 | true=>exact wpAny_pyIter_tuple h q
 | false=>exact fc h q
theorem IsB.push {t:Bool}{h:Heap}{a:Addr}{arr:Array g_}(x:IsB t h a arr)(o:Obj):IsB t (h.push o) a arr:=by
 cases t with
 | true=>exact Heap.IsTuple.push x o
 | false=>exact Heap.IsList.push x o
theorem ItB.keep {t:Bool}{h h':Heap}{j a:Addr}{k:Nat}(x:ItB t h j a k)(e:∀ o,h.get? j=kb o->h'.get? j=kb o):ItB t h' j a k:=by
 cases t with
 | true=>obtain⟨o,ho,r⟩:=x;exact⟨o,e o ho,r⟩
 | false=>obtain⟨o,ho,r⟩:=x;exact⟨o,e o ho,r⟩
theorem ItB.obj {t:Bool}{h:Heap}{j a:Addr}{k:Nat}(x:ItB t h j a k):∃ o,h.get? j=kb o/\∀ v,o.data≠.cell v:=by
 cases t with
 | true=>obtain⟨o,ho,c,d⟩:=x;exact⟨o,ho,λ v z=>by rw[d]at z;cases z⟩
 | false=>obtain⟨o,ho,c,d⟩:=x;exact⟨o,ho,λ v z=>by rw[d]at z;cases z⟩
theorem ud {t:Bool}(hh:A.handled=My)(j a:Addr)(ne:a≠j)(arr:Array g_):Draws prog w A j [j,a] arr.size (λ i v=>arr[i]?=kb v) (λ i h=>ItB t h j a i/\IsB t h a arr):=by
 cases t with
 | true=>exact IP hh j a ne arr
 | false=>exact Draws.list hh j a ne arr
def pX (t1 t2:Bool)(l1 l2:Addr)(h:Heap):Heap :=
 ((((h.push (mh t1 l1)).push (mh t2 l2)).push ⟨.type "tuple",My,.seq #[.ref h.objs.size,.ref (h.objs.size+1)] 0,#[]⟩).push ⟨.type "tuple",My,.seq #[.none,.none] 0,#[]⟩).push ⟨.type "zip",My,.fields #[.none,.bool V1,.bool V1,.ref (h.objs.size+2),.ref (h.objs.size+3)],#[]⟩
theorem Py (t1 t2:Bool)(l1 l2:Addr)(xs ys:Array g_) :
  Meets (Builtin.«zip.__new__» ⟨[.type "zip",.ref l1,.ref l2],[]⟩) (λ _ R s=>IsB t1 s.heap l1 xs/\IsB t2 s.heap l2 ys/\R (.ok (.ret (.ref (s.heap.objs.size+4)))) {s with heap:=pX t1 t2 l1 l2 s.heap}) :=
 .of_wp λ prog w A R s h=>by
  obtain⟨hp,g,d,tk,os⟩:=s;obtain⟨hl1,hl2,h⟩:=h;have hsub:=sub_zip;have hL1:IsB t1 (Shared.heap ⟨hp,g,d,tk,os⟩) l1 xs:=hl1;have hL2:IsB t2 (Shared.heap ⟨hp.push (mh t1 l1),g,d,tk,os⟩) l2 ys:=IsB.push hl2 _
  wp_walk using ra hL1,ra hL2
  refine⟨_,rfl,?_⟩;unfold pX at h;simp only[cn]at h ⊢;exact h
end
end Zp
namespace L2
open PySem PySem.Spec PyProof.Rows Zp
section
variable {X:Cx}{pins:hJ}{σ:St}{H:Hp}{s:hE}{h':Heap}
theorem Inv.qF {t':Nat}{fp:List Addr}(I:Inv X pins σ H s)(k:∀ b o,b∉fp->s.heap.get? b=kb o->h'.get? b=kb o)(hf:∀ b∈fp,pO X pins H b):Inv X pins σ H {s with heap:=h',toks:=t'}:=by
 have nit:∀ b u,H b=kb u->b∉fp:=λ b u e z=>by rw[(hf b z).1]at e;cases e
 refine I.step (g':=s.gens) (d':=s.drawn) (ch:=fp) (λ b hb=>⟨(hf b hb).2.2.2.1,(hf b hb).2.1,(hf b hb).2.2.2.2.1,(hf b hb).2.2.2.2.2⟩) (λ b o _ _ hc e _=>k b o hc e) (λ b o _ _ hc e _=>⟨o.slots,k b o hc e⟩) (λ _ _ _ _ n=>n)
  (λ b o hc e=>⟨o,k b o hc e⟩) (λ _ _ e=>e) (λ _ _ _ e=>e) (λ b ps e=>⟨#[],by rw[e];simp⟩) (λ m hm=>?_) (λ b u e=>?_) I.bare
 ·obtain⟨o,es,ep,ho,r⟩:=hm;exact⟨o,es,ep,k _ o (λ z=>(hf _ z).2.1 rfl) ho,r⟩
 ·refine(I.hok b u e).vZ (λ c v hc q=>k c v ?_ q) (λ _ q=>q) λ _ _ q=>q
  rcases hc with z | z
  ·rw[z];exact nit b u e
  ·exact nit c _ z
theorem Inv.oO {t:Bool}{a:Addr}{xs:List V}(I:Inv X pins σ H s)(h:SqB t X.K H a xs):∃ its:List g_,Vals xs its/\IsB t s.heap a its.toArray/\xs.length<=sizeLine:=by
 cases t with
 | true=>obtain⟨its,r,p,z⟩:=I.tuple h;exact⟨its,r,p,z⟩
 | false=>obtain⟨its,r,p,z⟩:=I.list h;exact⟨its,r,p.isList,z⟩
theorem Inv.wW {t:Bool}{a:Addr}{xs ys:List V}(I:Inv X pins σ H s)(h:SqB t X.K H a xs)(h':SqB t X.K H a ys):xs=ys:=by
 cases t with
 | true=>exact I.nS h h'
 | false=>exact I.Bb h h'
theorem ItB.cls {t:Bool}{h:Heap}{j a:Addr}{k:Nat}(x:ItB t h j a k):∃ o,h.get? j=kb o/\o.cls≠.type "tuple"/\o.cls≠.type "list":=by
 cases t with
 | true=>obtain⟨o,ho,c,d⟩:=x;exact⟨o,ho,by rw[c];decide,by rw[c];decide⟩
 | false=>obtain⟨o,ho,c,d⟩:=x;exact⟨o,ho,by rw[c];decide,by rw[c];decide⟩
def Itz (t1 t2:Bool)(K:g9)(a b:Addr):It :=
  ⟨λ i H=>∃ xs ys,SqB t1 K H a xs/\SqB t2 K H b ys/\i<xs.length/\i<ys.length,
   λ i H v H'=>∃ p x y,v=.ref p/\H p=My/\H'=upd H p (.tup [x,y])/\(∀ xs,SqB t1 K H a xs->xs[i]?=kb x)/\(∀ ys,SqB t2 K H b ys->ys[i]?=kb y),
   λ i H=>∃ xs ys,SqB t1 K H a xs/\SqB t2 K H b ys/\(i=xs.length\/(i<xs.length/\i=ys.length))⟩
def tnz (t1 t2:Bool)(a b z T O i j:Addr)(k:Nat)(h:Heap):Prop:=IsZip h z T O .none/\IsPair h T (.ref i) (.ref j)/\(∃ x y,IsPair h O x y)/\ItB t1 h i a k/\ItB t2 h j b k
theorem RQ (z T O i j:Addr):z∈[z,T,O,i,j]/\T∈[z,T,O,i,j]/\O∈[z,T,O,i,j]/\i∈[z,T,O,i,j]/\j∈[z,T,O,i,j]:=by simp
theorem NT {z T O i j a b:Addr}(Tz:T≠z)(Oz:O≠z)(TO:T≠O)(iz:i≠z)(jz:j≠z)(Ti:T≠i)(Tj:T≠j)(Oi:O≠i)(Oj:O≠j)(ij:i≠j)(az:a≠z)(bz:b≠z)(aO:a≠O)(bO:b≠O)(aj:a≠j)(bi:b≠i):Ap z T O i j [i,a] [j,b] :=
 ⟨Tz,Oz,TO,iz,jz,Ti,Tj,Oi,Oj,ij,by simp[aY iz,aY az],by simp[aY jz,aY bz],by simp[Oi,aY aO],by simp[Oj,aY bO],by simp[aY ij,aY aj],by simp[ij,aY bi]⟩
theorem ue {X:Cx}{pins:hJ}{σ:St}{H:Hp}{s:hE}{fp:List Addr}(I:Inv X pins σ H s)(hf:∀ q∈fp,pO X pins H q){t:Bool}{c:Addr}{zs:List V}(hs:SqB t X.K H c zs)(q:Addr)(hq:q∈fp):c≠q:=by
 intro e;have hn:=(hf q hq).1;have hnk:X.K.lookup q=My:=by
  cases hkq:X.K.lookup q with
  | none=>rfl
  | some oo =>
   have hb:=I.ok.mod.kin q oo hkq;exfalso;rcases (hf q hq).2.2.2.1 with hx | hx
   ·exact I.ok.C6 q oo hb hx
   ·exact aX _ (aB (aw hb) (bg I.ok.bsz hx))
 rw[e]at hs;cases t with
 | true =>
  rcases hs with (r | ⟨_,r⟩) | ⟨oo,_,_,r,_⟩
  ·rw[hn]at r;cases r
  ·rw[hn]at r;cases r
  ·rw[hnk]at r;cases r
 | false =>
  rcases hs with (r | ⟨_,r⟩) | ⟨oo,_,_,r,_⟩
  ·rw[hn]at r;cases r
  ·rw[hn]at r;cases r
  ·rw[hnk]at r;cases r
theorem IQ {P:Program}{w:World}{K:g9}{elts:List Expr}{kk:Nat}{ps:Pos}(t1 t2:Bool)(a b z T O i j:Addr)(Tz:T≠z)(Oz:O≠z)(TO:T≠O)(iz:i≠z)(jz:j≠z)(Ti:T≠i)(Tj:T≠j)(Oi:O≠i)(Oj:O≠j)(ij:i≠j) :
  Turn P w K (.Tuple elts kk ps) (Itz t1 t2 K a b) [z,T,O,i,j] z (tnz t1 t2 a b z T O i j) where
 mem:=by simp
 obj:=λ k h st c hc=>by
  obtain⟨hz,hT,⟨x,y,hO⟩,h1,h2⟩:=st;simp only[aG,cE,or_false]at hc;rcases hc with rfl | rfl | rfl | rfl | rfl
  ·exact⟨_,hz,λ v q=>by cases q⟩
  ·exact⟨_,hT,λ v q=>by cases q⟩
  ·exact⟨_,hO,λ v q=>by cases q⟩
  ·exact h1.obj
  ·exact h2.obj
 keep:=λ k h h' st kp=>by obtain⟨hz,hT,⟨x,y,hO⟩,h1,h2⟩:=st;exact⟨kp z (by simp) _ hz,kp T (by simp) _ hT,⟨x,y,kp O (by simp) _ hO⟩,h1.keep λ o e=>kp i (by simp) o e,h2.keep λ o e=>kp j (by simp) o e⟩
 item:=by
  intro X hP hw hK hc k pins s σ H E I hf st hg;subst hP hw hK;obtain⟨xs,ys,hq1,hq2,hk1,hk2⟩:=hg;obtain⟨hz,hT,⟨x0,y0,hO⟩,h1,h2⟩:=st;obtain⟨its1,rv1,p1,_⟩:=I.oO hq1;obtain⟨its2,rv2,p2,_⟩:=I.oO hq2;obtain⟨oi,gi,ci,ci'⟩:=ItB.cls (t:=t1) (h:=s.heap) (j:=i) (a:=a) (k:=k) h1;obtain⟨oj,gj,cj,cj'⟩:=ItB.cls (t:=t2) (h:=s.heap) (j:=j) (a:=b) (k:=k) h2;have hl1:=rv1.length;have hl2:=rv2.length;have m5:=RQ z T O i j;have na:=ue I hf hq1;have nb:=ue I hf hq2;have ap:=NT Tz Oz TO iz jz Ti Tj Oi Oj ij (na _ m5.1) (nb _ m5.1) (na _ m5.2.2.1) (nb _ m5.2.2.1) (na _ m5.2.2.2.2) (nb _ m5.2.2.2.1);refine RO ap (ud (prog:=X.prog) (w:=X.w) (A:=X.A.in1) (t:=t1) (show X.A.in1.handled=My from I.ok.hd hc) i a (na i m5.2.2.2.1) its1.toArray) (ud (prog:=X.prog) (w:=X.w) (A:=X.A.in1) (t:=t2) (show X.A.in1.handled=My from I.ok.hd hc) j b (nb j m5.2.2.2.2) its2.toArray) (by simp;lia) (by simp;lia) hz hT hO ⟨h1,p1⟩ ⟨h2,p2⟩ ?_;intro h' N tk x y px py hN hz' hO' s1 s2 hNp kp;refine⟨.ref N,rfl,?_⟩;have I1:Inv X pins σ H {s with heap:=h',toks:=tk}:=I.qF (fp:=[z,T,O,i,j]) (λ c o hc' e=>kp c o (λ q=>hc' (q▸m5.1)) (λ q=>hc' (q▸m5.2.2.1)) (λ q=>hc' (q▸m5.2.2.2.1)) (λ q=>hc' (q▸m5.2.2.2.2)) e) hf;have hxk:xs[k]?=kb (xs[k]'hk1):=by simp[hk1]
  have hyk:ys[k]?=kb (ys[k]'hk2):=by simp[hk2]
  obtain⟨u1,e1,r1⟩:=rv1.get hxk;obtain⟨u2,e2,r2⟩:=rv2.get hyk;have px':its1[k]?=kb x:=by simpa using px
  have py':its2[k]?=kb y:=by simpa using py
  rw[e1]at px';cases px';rw[e2]at py';cases py';have hNn:H N=My:=I.hok.fresh hN;have I2:Inv X pins σ (upd H N (.tup [xs[k],ys[k]])) {s with heap:=h',toks:=tk}:=I1.zd hNn (bg I.sz hN) (bR (aB I.lt hN)) (λ x c e q=>by
    obtain⟨v,o,ho,_⟩:=I.cell x c e;exact absurd (aw ho) (by rw[q];exact ed.mpr hN)) (λ p hp q=>absurd (aw (I.pin p hp).1) (by rw[q];exact ed.mpr hN))
   ⟨⟨by rw[sizeLine_eq];simp,_,hNp,rfl⟩,[x,y],.cons r1 (.cons r2 .nil),⟨_,hNp,rfl,0,rfl⟩⟩
  have nfp:∀ q∈[z,T,O,i,j],q≠N:=λ q hq e=>by
   have:q<s.heap.objs.size:=by
    simp only[aG,cE,or_false]at hq;rcases hq with rfl | rfl | rfl | rfl | rfl
    ·exact aw hz
    ·exact aw hT
    ·exact aw hO
    ·exact aw gi
    ·exact aw gj
   rw[e]at this;exact aX _ (aB this hN)
  have hf2:∀ q∈[z,T,O,i,j],pO X pins (upd H N (.tup [xs[k],ys[k]])) q:=λ q hq=>⟨by rw[iI (nfp q hq)];exact(hf q hq).1,(hf q hq).2⟩;refine wpAny_letOwnedTupleGo_zip hz' λ h2' hz2 sb=>?_;refine⟨.ref N,_,I2.qF (t':=tk) (fp:=[z,T,O,i,j]) (λ c o hc' e=>sb.extBut _ _ (λ q=>hc' (by simp[q])) e) hf2,rfl,⟨N,_,_,rfl,hNn,rfl,λ zs hs=>?_,λ zs hs=>?_⟩,⟨hz2,sb.extBut _ _ Tz (kp T _ Tz TO Ti Tj hT),⟨_,_,sb.extBut _ _ Oz hO'⟩,s1.1.keep λ o e=>sb.extBut _ _ iz e,s2.1.keep λ o e=>sb.extBut _ _ jz e⟩,λ q hq=>(hf2 q hq).1⟩
  ·rw[I.wW hs hq1];exact hxk
  ·rw[I.wW hs hq2];exact hyk
 done:=by intro X hP hw hK hc k pins s σ H E I hf st hg;subst hP hw hK;obtain⟨xs,ys,hq1,hq2,hk⟩:=hg;obtain⟨hz,hT,⟨x0,y0,hO⟩,h1,h2⟩:=st;obtain⟨its1,rv1,p1,_⟩:=I.oO hq1;obtain⟨its2,rv2,p2,_⟩:=I.oO hq2;have hl1:=rv1.length;have hl2:=rv2.length;have m5:=RQ z T O i j;have na:=ue I hf hq1;have nb:=ue I hf hq2;have ap:=NT Tz Oz TO iz jz Ti Tj Oi Oj ij (na _ m5.1) (nb _ m5.1) (na _ m5.2.2.1) (nb _ m5.2.2.1) (na _ m5.2.2.2.2) (nb _ m5.2.2.2.1);refine RP ap (ud (prog:=X.prog) (w:=X.w) (A:=X.A.in1) (t:=t1) (show X.A.in1.handled=My from I.ok.hd hc) i a (na i m5.2.2.2.1) its1.toArray) (ud (prog:=X.prog) (w:=X.w) (A:=X.A.in1) (t:=t2) (show X.A.in1.handled=My from I.ok.hd hc) j b (nb j m5.2.2.2.2) its2.toArray) (k:=k) (by simp;lia) hz hT hO ⟨h1,p1⟩ ⟨h2,p2⟩ ?_;intro h' tk kp;exact⟨rfl,I.qF (fp:=[z,T,O,i,j]) (λ c o hc' e=>kp c o (λ q=>hc' (q▸m5.1)) (λ q=>hc' (q▸m5.2.2.1)) (λ q=>hc' (q▸m5.2.2.2.1)) (λ q=>hc' (q▸m5.2.2.2.2)) e) hf⟩
 self:=λ _ _ _ _ _ st h=>wpAny_pyIter_zip st.1 h
end
def RS (K:g9)(J:It)(H:Hp)(ds:List Dt):Prop:=∀ H',iA H H'->(∀ (i:Nat) d,ds[i]?=kb d->J.go i H'/\∀ x H'',J.yld i H' x H''->iA H' H''/\Is K H'' x d)/\J.stop ds.length H'
def iD (K:g9)(g:DE->g6 (List Dt)):TI:=λ σ H R=>∃ δ ds,Sat K H σ δ/\g δ=kb ds/\∀ J H',iA H H'->RS K J H' ds->R J H'
section
variable {X:Cx}{e a b c:Expr}{es:List Expr}{pos:Pos}{tg iter:Expr}
theorem PI.of {t t':TI}(h:PI X tg iter t)(w:∀ σ H Q,t' σ H Q->t σ H Q):PI X tg iter t':=λ pins s σ H Q I q=>h pins s σ H Q I (w σ H Q q)
def sF:Dt->g6 (List Dt)
 | .tup ds=>kb ds
 | _=>My
def Fl:Dt->g6 (List Dt)
 | .lst ds=>kb ds
 | _=>My
theorem uf {d:Dt}{ds:List Dt}(h:sF d=kb ds):d=.tup ds:=by cases d<;>simp[sF]at h;rw[h]
theorem zi {d:Dt}{ds:List Dt}(h:Fl d=kb ds):d=.lst ds:=by cases d<;>simp[Fl]at h;rw[h]
def gI (f:Dt->g6 (List Dt))(g:DE->g6 Dt):DE->g6 (List Dt):=λ δ=>(g δ).bind f
theorem Pz {g:DE->g6 Dt}(h:PD X e g):PI X tg e (iD X.K (gI sF g)):=(HR h).of λ σ H R hz1=>by obtain⟨δ,ds,S,q,k⟩:=hz1;obtain⟨x,e1,e2⟩:=hZ q;have e2:=uf e2;subst e2;refine⟨δ,_,S,e1,λ v H1 s1 i1=>?_⟩;obtain⟨a,xs,rfl,hq,is⟩:=i1.iR;refine⟨a,rfl,⟨xs,hq⟩,k _ H1 s1 λ H2 s2=>⟨λ i d hd=>?_,⟨xs,s2.sD hq,by rw[is.length];exact aq _⟩⟩⟩;obtain⟨v,hv,iv⟩:=is.get hd;exact⟨⟨xs,v,s2.sD hq,hv⟩,λ x H3 hz2=>by obtain⟨e3,y⟩:=hz2;subst e3;have:=y xs (s2.sD hq);rw[hv]at this;cases this;exact⟨iA.refl _,iv.ext s2⟩⟩
theorem PB {g:DE->g6 Dt}(h:PD X e g):PI X tg e (iD X.K (gI Fl g)):=(zO h).of λ σ H R hz3=>by obtain⟨δ,ds,S,q,k⟩:=hz3;obtain⟨x,e1,e2⟩:=hZ q;have e2:=zi e2;subst e2;refine⟨δ,_,S,e1,λ v H1 s1 i1=>?_⟩;obtain⟨a,xs,rfl,hq,is⟩:=i1.lst_inv;refine⟨a,rfl,⟨xs,SqL.of hq⟩,k _ H1 s1 λ H2 s2=>⟨λ i d hd=>?_,⟨xs,s2.seq (SqL.of hq),by rw[is.length];exact aq _⟩⟩⟩;obtain⟨v,hv,iv⟩:=is.get hd;exact⟨⟨xs,v,s2.seq (SqL.of hq),hv⟩,λ x H3 hz4=>by obtain⟨e3,y⟩:=hz4;subst e3;have:=y xs (s2.seq (SqL.of hq));rw[hv]at this;cases this;exact⟨iA.refl _,iv.ext s2⟩⟩
def yu:List Dt->g6 (List Dt)
 | [.int j]=>if j<=1000000/\-1000000<=j then kb ((V2 j.toNat).map λ(i:Nat)=>.int i) else My
 | _=>My
def GH:List Dt->g6 (List Dt)
 | [.int i,.int j]=>if (-1000000<=i/\i<=1000000)/\j<=1000000/\-1000000<=j then kb ((V2 (j-i).toNat).map λ(k:Nat)=>.int (i+k)) else My
 | _=>My
theorem IS {x ds:List Dt}(e:yu x=kb ds):∃ j:Int,x=[.int j]/\(j<=1000000/\-1000000<=j)/\ds=(V2 j.toNat).map λ(i:Nat)=>Dt.int i:=by
 cases x with
 | nil=>cases e
 | cons y r=>cases r with
  | cons _ _=>cases y<;>cases e
  | nil=>cases y with
   | int j =>
    have e:(if j<=1000000/\-1000000<=j then kb ((V2 j.toNat).map λ(i:Nat)=>Dt.int i) else My)=kb ds:=e;by_cases hj:j<=1000000/\-1000000<=j
    ·rw[ae hj]at e;exact⟨j,rfl,hj,(aF e).symm⟩
    ·rw[ag hj]at e;cases e
   | _=>cases e
theorem IT {x ds:List Dt}(e:GH x=kb ds):∃ i j:Int,x=[.int i,.int j]/\((-1000000<=i/\i<=1000000)/\j<=1000000/\-1000000<=j)/\ds=(V2 (j-i).toNat).map λ(k:Nat)=>Dt.int (i+k):=by
 cases x with
 | nil=>cases e
 | cons y r=>cases y with
  | int i=>cases r with
   | nil=>cases e
   | cons z r=>cases z with
    | int j=>cases r with
     | cons _ _=>cases e
     | nil =>
      have e:(if (-1000000<=i/\i<=1000000)/\j<=1000000/\-1000000<=j then kb ((V2 (j-i).toNat).map λ(k:Nat)=>Dt.int (i+k)) else My)=kb ds:=e;by_cases hj:(-1000000<=i/\i<=1000000)/\j<=1000000/\-1000000<=j
      ·rw[ae hj]at e;exact⟨i,j,rfl,hj,(aF e).symm⟩
      ·rw[ag hj]at e;cases e
    | _=>cases e
  | _=>cases e
theorem IU {K:g9}{H:Hp}(lo:Int)(n:Nat):RS K (Itr lo n) H ((V2 n).map λ(k:Nat)=>.int (lo+k)):=λ H1 s1=>by
 refine⟨λ i d hd=>?_,by show n<=_;simp⟩;rw[aD]at hd;by_cases hi:i<n
 ·rw[bx hi]at hd;cases hd;exact⟨hi,λ x H2 ⟨e1,e2⟩=>by subst e1;subst e2;exact⟨iA.refl _,.int _⟩⟩
 ·rw[bu (by simpa using hi)]at hd;cases hd
theorem GI {gs:DE->g6 (List Dt)}{p:Pos}(hm:X.mg "range"=My)(ha:PDs X [a] gs)(hg:Gl X "range":=by rfl)(hs:starEach [a] X.env=[(V1,eval a X.env)]:=by rfl):PI X tg (.Call (.Name "range" p) [a] [] pos) (iD X.K (λ δ=>(gs δ).bind yu)) :=
 (mB hg hm ha hs).of λ σ H R hz5=>by
  obtain⟨δ,ds,S,q,k⟩:=hz5;obtain⟨x,e1,e2⟩:=hZ q;obtain⟨j,rfl,hj,rfl⟩:=IS e2;refine⟨δ,_,S,e1,λ vs H1 s1 i1=>?_⟩;cases i1 with
  | cons i1 i2 =>cases i2;cases i1;refine⟨j,rfl,by lia,by lia,k _ H1 s1 ?_⟩;have:=IU (K:=X.K) (H:=H1) 0 j.toNat;simpa using this
theorem GJ {gs:DE->g6 (List Dt)}{p:Pos}(hm:X.mg "range"=My)(ha:PDs X [a,b] gs)(hg:Gl X "range":=by rfl)(hs:starEach [a,b] X.env=[(V1,eval a X.env),(V1,eval b X.env)]:=by rfl)(hs2:starEach [b] X.env=[(V1,eval b X.env)]:=by rfl):PI X tg (.Call (.Name "range" p) [a,b] [] pos) (iD X.K (λ δ=>(gs δ).bind GH)) :=
 (yL hg hm ha hs hs2).of λ σ H R hz6=>by
  obtain⟨δ,ds,S,q,k⟩:=hz6;obtain⟨x,e1,e2⟩:=hZ q;obtain⟨i,j,rfl,hj,rfl⟩:=IT e2;refine⟨δ,_,S,e1,λ vs H1 s1 i1=>?_⟩;cases i1 with
  | cons i1 i2 =>
   cases i2 with
   | cons i2 i3 =>cases i3;cases i1;cases i2;exact⟨i,j,rfl,⟨by lia,by lia,by lia,by lia⟩,k _ H1 s1 (IU i _)⟩
def itB (t:Bool):Dt->g6 (List Dt):=match t with
 | true=>sF
 | false=>Fl
theorem Ac {K:g9}{H:Hp}{v:V}{t:Bool}{d:Dt}{ds:List Dt}(h:itB t d=kb ds)(i:Is K H v d):∃ a xs,v=.ref a/\SqB t K H a xs/\Iss K H xs ds:=by
 cases t with
 | true=>rw[uf h]at i;exact i.iR
 | false =>rw[zi h]at i;obtain⟨a,xs,e,q,r⟩:=i.lst_inv;exact⟨a,xs,e,SqL.of q,r⟩
theorem iA.oO {K:g9}{H H':Hp}{t:Bool}{a:Addr}{xs:List V}(e:iA H H')(h:SqB t K H a xs):SqB t K H' a xs:=by
 cases t with
 | true=>exact e.sD h
 | false=>exact e.seq h
def IV (t1 t2:Bool):List Dt->g6 (List Dt)
 | [x,y]=>(itB t1 x).bind λ xs=>(itB t2 y).map λ ys=>(xs.zip ys).map λ(p,q)=>.tup [p,q]
 | _=>My
theorem nn {a b:Nat}(h:a≠b):@Ne Addr a b:=h
theorem IW (t1 t2:Bool)(x y:Addr)(h:Heap):IsZip (pX t1 t2 x y h) (h.objs.size+4) (h.objs.size+2) (h.objs.size+3) .none/\IsPair (pX t1 t2 x y h) (h.objs.size+2) (.ref h.objs.size) (.ref (h.objs.size+1))/\IsPair (pX t1 t2 x y h) (h.objs.size+3) .none .none /\
  ItB t1 (pX t1 t2 x y h) h.objs.size x 0/\ItB t2 (pX t1 t2 x y h) (h.objs.size+1) y 0/\∀ b u,h.get? b=kb u->(pX t1 t2 x y h).get? b=kb u:=by
 have fr:∀ t a,(mh t a).isFreed=V1:=λ t a=>by cases t<;>rfl
 have up:∀ (o1:Obj) (g:Heap) (n:Nat),g.objs.size=n->o1.isFreed=V1->(g.push o1).get? n=kb o1:=λ o1 g n e f=>by subst e;exact aK _ f
 unfold pX;generalize hn:h.objs.size=n;have z1:(h.push (mh t1 x)).objs.size=n+1:=by rw[cn,hn]
 have z2:((h.push (mh t1 x)).push (mh t2 y)).objs.size=n+2:=by rw[cn,z1]
 refine⟨?_,?_,?_,?_,?_,?_⟩
 ·refine up _ _ _ ?_ rfl;rw[cn,cn,z2]
 ·refine ai _ (ai _ (up _ _ _ ?_ rfl));rw[z2]
 ·refine ai _ (up _ _ _ ?_ rfl);rw[cn,z2]
 ·have g:=ai (⟨.type "zip",My,.fields #[.none,.bool V1,.bool V1,.ref (n+2),.ref (n+3)],#[]⟩:Obj) (ai (⟨.type "tuple",My,.seq #[.none,.none] 0,#[]⟩:Obj) (ai (⟨.type "tuple",My,.seq #[.ref n,.ref (n+1)] 0,#[]⟩:Obj) (ai (mh t2 y) (up (mh t1 x) h n hn (fr _ _)))))
  cases t1 with
  | true=>exact⟨_,g,rfl,rfl⟩
  | false=>exact⟨_,g,rfl,rfl⟩
 ·have g:=ai (⟨.type "zip",My,.fields #[.none,.bool V1,.bool V1,.ref (n+2),.ref (n+3)],#[]⟩:Obj) (ai (⟨.type "tuple",My,.seq #[.none,.none] 0,#[]⟩:Obj) (ai (⟨.type "tuple",My,.seq #[.ref n,.ref (n+1)] 0,#[]⟩:Obj) (up (mh t2 y) _ (n+1) z1 (fr _ _))))
  cases t2 with
  | true=>exact⟨_,g,rfl,rfl⟩
  | false=>exact⟨_,g,rfl,rfl⟩
 ·exact λ b u e=>ai _ (ai _ (ai _ (ai _ (ai _ e))))
theorem PH {ta:TA}{elts:List Expr}{kk:Nat}{ps p:Pos}(t1 t2:Bool)(hg:Gl X "zip")(hm:X.mg "zip"=My)(ha:PA X [a,b] ta)(hs:starEach [a,b] X.env=[(V1,eval a X.env),(V1,eval b X.env)]:=by rfl)(hs2:starEach [b] X.env=[(V1,eval b X.env)]:=by rfl)
  (hv:bootBuiltins "zip"=kb (.type "zip"):=by rfl) :
  PI X (.Tuple elts kk ps) (.Call (.Name "zip" p) [a,b] [] pos) (λ σ H R=>ta σ H λ vs H1=>∃ x y,vs=[.ref x,.ref y]/\(∃ xs,SqB t1 X.K H1 x xs)/\(∃ ys,SqB t2 X.K H1 y ys)/\R (Itz t1 t2 X.K x y) H1):=by
 intro pins s σ H R I h;refine Call_ (rq I hg hm hv (cF (thn (ha pos pins s σ H _ I h) λ us s1 ⟨vs,H1,I1,r1,q1⟩=>?_) (by rw[hs,hs2]) (by rw[hs2];rfl)));obtain⟨x,y,rfl,⟨xs,hx⟩,⟨ys,hy⟩,q⟩:=q1;obtain⟨u,u',rfl,ru,ru'⟩:=vals2 r1;cases ru;cases ru';obtain⟨its1,_,p1,_⟩:=I1.oO hx;obtain⟨its2,_,p2,_⟩:=I1.oO hy;refine callType_new F.called_zip (by decide) (F.typeCall_zip_2 _ _) (F.newCall_zip_2 _ _) (λ obj=>F.args_object_init_3 obj _ _) F.entry_zip_new (Py t1 t2 x y its1.toArray its2.toArray) ⟨p1,p2,?_⟩;obtain⟨k1,k2,k3,k4,k5,k6⟩:=IW t1 t2 x y s1.heap;show _/\_;refine⟨⟨_,k1,rfl⟩,wpAny_pyIter_zip (s:={s1 with heap:=pX t1 t2 x y s1.heap}) (z:=s1.heap.objs.size+4) k1 ?_⟩;have I2:Inv X pins σ H1 {s1 with heap:=pX t1 t2 x y s1.heap}:=I1.kept (t':=s1.toks) k6;refine⟨_,[s1.heap.objs.size+4,s1.heap.objs.size+2,s1.heap.objs.size+3,s1.heap.objs.size,s1.heap.objs.size+1],_,_,H1,rfl,I2,IQ t1 t2 x y (s1.heap.objs.size+4) (s1.heap.objs.size+2) (s1.heap.objs.size+3) s1.heap.objs.size (s1.heap.objs.size+1) (nn (by lia)) (nn (by lia)) (nn (by lia)) (nn (by lia)) (nn (by lia)) (nn (by lia)) (nn (by lia)) (nn (by lia)) (nn (by lia)) (nn (by lia)),⟨k1,k2,⟨_,_,k3⟩,k4,k5⟩,λ c hc=>?_,q⟩;have hc:s1.heap.objs.size<=c:=by
  simp only[aG,cE,or_false]at hc;rcases hc with rfl | rfl | rfl | rfl | rfl
  ·exact dZ _ _
  ·exact dZ _ _
  ·exact dZ _ _
  ·exact aq _
  ·exact dZ _ _
 exact I1.HN hc (I1.hok.fresh hc)
theorem PJ {gs:DE->g6 (List Dt)}{elts:List Expr}{kk:Nat}{ps p:Pos}(t1 t2:Bool)(hm:X.mg "zip"=My)(ha:PDs X [a,b] gs)(hg:Gl X "zip":=by rfl)(hs:starEach [a,b] X.env=[(V1,eval a X.env),(V1,eval b X.env)]:=by rfl)(hs2:starEach [b] X.env=[(V1,eval b X.env)]:=by rfl)
  (hv:bootBuiltins "zip"=kb (.type "zip"):=by rfl):PI X (.Tuple elts kk ps) (.Call (.Name "zip" p) [a,b] [] pos) (iD X.K (λ δ=>(gs δ).bind (IV t1 t2))) :=
 (PH t1 t2 hg hm ha hs hs2 hv).of λ σ H R hz7=>by
  obtain⟨δ,ds,S,q,k⟩:=hz7;obtain⟨x,e1,e2⟩:=hZ q;match x,e2 with
  | [x,y],e2 =>
   obtain⟨xs,f1,e2⟩:=hZ (show(itB t1 x).bind _=_ from e2);obtain⟨ys,f2,e2⟩:=iP e2;subst e2;refine⟨δ,_,S,e1,λ vs H1 s1 i1=>?_⟩;cases i1 with
   | cons i1 i2 =>
    cases i2 with
    | cons i2 i3 =>
     cases i3;obtain⟨c,vs1,rfl,q1,is1⟩:=Ac f1 i1;obtain⟨d,vs2,rfl,q2,is2⟩:=Ac f2 i2;refine⟨c,d,rfl,⟨_,q1⟩,⟨_,q2⟩,k _ H1 s1 λ H2 s2=>⟨λ i dd hd=>?_,⟨vs1,vs2,s2.oO q1,s2.oO q2,?_⟩⟩⟩
     ·rw[aD]at hd
      cases hz:(xs.zip ys)[i]? with
      | none=>rw[hz]at hd;cases hd
      | some pr =>rw[hz]at hd;obtain⟨pa,pb⟩:=pr;cases hd;obtain⟨h1,h2⟩:=List.getElem?_zip_eq_some.mp hz;obtain⟨v1,g1,j1⟩:=is1.get h1;obtain⟨v2,g2,j2⟩:=is2.get h2;refine⟨⟨vs1,vs2,s2.oO q1,s2.oO q2,(a_.mp g1).1,(a_.mp g2).1⟩,?_⟩;rintro v H3 ⟨p,a1,a2,rfl,hp,rfl,r1,r2⟩;have w1:=r1 vs1 (s2.oO q1);have w2:=r2 vs2 (s2.oO q2);rw[g1]at w1;cases w1;rw[g2]at w2;cases w2;exact⟨iA.upd hp,.tup (SqT.of ir) (.cons ((j1.ext s2).ext (iA.upd hp)) (.cons ((j2.ext s2).ext (iA.upd hp)) .nil))⟩
     ·have l1:=is1.length;have l2:=is2.length;simp only[ak,gN];lia
end
def GD (K:g9)(g:TG)(gg:Dt->DE->g6 DE):Prop:=∀ H x d σ δ δ' (Q:St->Hp->Prop),Is K H x d->Sat K H σ δ->gg d δ=kb δ'->(∀ σ',Sat K H σ' δ'->Q σ' H)->g x σ H Q
def ggN (i:Nat):Dt->DE->g6 DE:=λ d δ=>kb (δ.set i (kb d))
def kW (i j:Nat):Dt->DE->g6 DE:=λ d δ=>match d with
 | .tup [x,y]=>kb ((δ.set i (kb x)).set j (kb y))
 | _=>My
theorem IX {i j:Nat}{d:Dt}{δ δ':DE}(e:kW i j d δ=kb δ'):∃ x y,d=.tup [x,y]/\δ'=(δ.set i (kb x)).set j (kb y):=by
 cases d with
 | tup l=>cases l with
  | nil=>cases e
  | cons x l=>cases l with
   | nil=>cases e
   | cons y l=>cases l with
    | nil=>exact⟨x,y,rfl,(aF e).symm⟩
    | cons _ _=>cases e
 | _=>cases e
theorem jZ {K:g9}{i:Nat}:GD K (je i) (ggN i):=λ H x d σ δ δ' Q h S e q=>by cases e;exact q _ (S.set h)
theorem lz {K:g9}{i j:Nat}:GD K (Bf K 2 (nu (je i) (nu (je j) Bd))) (kW i j):=λ H x d σ δ δ' Q h S e q=>by
 obtain⟨d1,d2,rfl,rfl⟩:=IX e;obtain⟨a,xs,rfl,hq,is⟩:=h.iR;cases is with
 | cons i1 i2 =>
  cases i2 with
  | cons i2 i3 =>cases i3;exact⟨a,_,rfl,hq,rfl,_,_,rfl,_,_,rfl,rfl,q _ ((S.set i1).set i2)⟩
def pD (own:List Str)(ix:List Nat)(δ:DE):DE:=own.map (λ _=>My)++ix.map λ i=>(δ[i]?).getD My
def sG (gg:Dt->DE->g6 DE)(gt:DE->g6 Bool)(ge:DE->g6 Dt)(δc:DE):List Dt->g6 (List Dt)
 | []=>kb []
 | d::r=>(gg d δc).bind λ δ'=>(gt δ').bind λ b=>if b=V0 then (ge δ').bind λ y=>(sG gg gt ge δc r).map (y::·) else sG gg gt ge δc r
def gLC (own:List Str)(ix:List Nat)(gi:DE->g6 (List Dt))(gg:Dt->DE->g6 DE)(gt:DE->g6 Bool)(ge:DE->g6 Dt):DE->g6 Dt :=
 λ δ=>(gi δ).bind λ ds=>if ds.length<=1000 then (sG gg gt ge (pD own ix δ) ds).map .lst else My
def jL:DE->g6 Bool:=λ _=>kb V0
section
variable {X:Cx}{e a b c:Expr}{es:List Expr}{pos:Pos}{tg iter elt:Expr}{ifs:List Expr}{own fr:List Str}{ix:List Nat}{scope:Scope}{g:TG}{gg:Dt->DE->g6 DE}{gi:DE->g6 (List Dt)}{gt:DE->g6 Bool}{ge:DE->g6 Dt}
theorem mL:PF X [] (tDT X.K jL):=λ pins s σ H Q I ⟨δ,b,S,e,q⟩=>by cases e;exact DF pins s σ H Q I (q H (iA.refl H))
theorem ug (h:PDT X c gt):PF X [c] (tDT X.K gt):=Pp h
set_option tactic.hygienic true in
theorem IY {K:g9}(hgd:GD K g gg)(σ:St)(H:Hp)(Q:VK)(h:tD K (gLC own ix gi gg gt ge) σ H Q):tLC own ix (iD K gi) g (tDT K gt) (tD K ge) σ H Q:=by
 obtain⟨δ,d,S,e,q⟩:=h;obtain⟨ds,e1,e⟩:=hZ e;split at e
 ·rename_i hlen
  obtain⟨rs,e2,e⟩:=iP e;subst e;refine⟨δ,ds,S,e1,λ J H1 s1 ok=>?_⟩;refine⟨λ i m ys H'=>m=ds.length-i/\i<=ds.length/\iA H1 H'/\ys.length<=i/\∃ us vs,Iss K H' ys us/\sG gg gt ge (pD own ix δ) (ds.drop i)=kb vs/\us++vs=rs,⟨_,rfl,aZ _,iA.refl _,aq _,[],rs,.nil,by simpa using e2,rfl⟩,?_⟩;rintro i m ys H' ⟨rfl,hi,s2,hy,us,vs,is,e3,e4⟩;obtain⟨items,stop⟩:=ok H' s2;by_cases hlt:i<ds.length
  ·right
   have hdi:ds[i]?=kb ds[i]:=by simp[hlt]
   obtain⟨go,yld⟩:=items i _ hdi;refine⟨go,by have:=rz;rw[sizeLine_eq];lia,λ x H'' hyl=>?_⟩;obtain⟨s3,ix3⟩:=yld x H'' hyl;rw[cR hlt]at e3;obtain⟨δ',f1,e3⟩:=hZ (show(gg ds[i] (pD own ix δ)).bind _=_ from e3);obtain⟨k,f2,e3⟩:=hZ e3;have S':Sat K H'' (jo own ix σ) (pD own ix δ):=(S.ext ((s1.trans s2).trans s3)).comp;refine hgd H'' x ds[i] _ _ δ' _ ix3 S' f1 λ σ' Sσ=>⟨δ',k,Sσ,f2,λ H3 s4=>?_⟩;cases k with
   | true =>rw[ae rfl]at e3 ⊢;obtain⟨y,f3,e3⟩:=hZ e3;obtain⟨r,f4,e3⟩:=iP e3;subst e3;refine⟨δ',y,Sσ.ext s4,f3,λ v H4 s5 iv=>⟨ds.length-(i+1),by lia,rfl,hlt,((s2.trans s3).trans s4).trans s5,by simp;lia,us++[y],r,(is.ext ((s3.trans s4).trans s5)).snoc iv,f4,by rw[<-e4];simp⟩⟩
   | false =>rw[ag ax]at e3 ⊢;exact⟨ds.length-(i+1),by lia,rfl,hlt,(s2.trans s3).trans s4,by lia,us,vs,is.ext (s3.trans s4),e3,e4⟩
  ·left
   have hi:i=ds.length:=by lia
   subst hi;rw[fA]at e3;cases e3;rw[bH]at e4;subst e4;exact⟨stop,λ p hp=>q _ _ ((s1.trans s2).trans (iA.upd hp)) (.lst ir (is.ext (iA.upd hp)))⟩
 ·cases e
theorem vC (hc:X.calm=V0)(S:kq X scope own fr ix)(hi:PI X tg iter (iD X.K gi))(hg:∀ C s H fp,PG (X.comp (own++fr) scope C s H fp) tg g)(hgo:yt own.length g)(hgd:GD X.K g gg)
  (ht:∀ C s H fp,PF (X.comp (own++fr) scope C s H fp) ifs (tDT X.K gt)) (he:∀ C s H fp,PE (X.comp (own++fr) scope C s H fp) elt (tD X.K ge)) (hs:∀ x,foldedSetIterable iter X.env x=pure x:=by intro _;rfl) :
  PD X (.ListComp elt [⟨tg,iter,ifs,0⟩] scope pos) (gLC own ix gi gg gt ge):=(NP hc S hi hg hgo ht he hs).of (IY hgd)
inductive RD where
 | nx (δ:DE) | rt (d:Dt)
def Us (K:g9)(D:Ends)(H:Hp):RD->Prop
 | .nx δ=>∀ σ,Sat K H σ δ->D.nx σ H
 | .rt d=>∀ v,Is K H v d->D.rt v H
def tDS (K:g9)(g:DE->g6 RD):TS:=λ D σ H=>∃ δ r,Sat K H σ δ/\g δ=kb r/\∀ H',iA H H'->Us K D H' r
variable {st:Stmt}{rest sts:List Stmt}{gs gs':DE->g6 RD}{ga:DE->g6 Dt}
abbrev PDS (X:Cx)(st:Stmt)(g:DE->g6 RD):Prop:=PS X st (tDS X.K g)
abbrev DJ (X:Cx)(st:List Stmt)(g:DE->g6 RD):Prop:=PSs X st (tDS X.K g)
def i_ (g g':DE->g6 RD):DE->g6 RD:=λ δ=>(g δ).bind λ r=>match r with
 | .nx δ'=>g' δ'
 | .rt d=>kb (.rt d)
theorem jB:DJ X [] (λ δ=>kb (.nx δ)):=ml.of λ D σ H ⟨δ,r,S,e,q⟩=>by cases e;exact q H (iA.refl H) σ S
theorem iJ (h1:PDS X st gs)(h2:DJ X rest gs'):DJ X (st::rest) (i_ gs gs'):=(iH h1 h2).of λ D σ H hz1=>by
 obtain⟨δ,r,S,e,q⟩:=hz1;obtain⟨r1,e1,e⟩:=hZ e;refine⟨δ,r1,S,e1,λ H1 s1=>?_⟩;cases r1 with
 | nx δ'=>exact λ σ' S'=>⟨δ',r,S',e,λ H2 s2=>q H2 (s1.trans s2)⟩
 | rt d=>cases e;exact q H1 s1
theorem iK (h1:PDS X st gs):DJ X [st] gs:=jc h1
def j5:DE->g6 RD:=λ δ=>kb (.nx δ)
def jW (i:Nat)(g:DE->g6 Dt):DE->g6 RD:=λ δ=>(g δ).map λ d=>.nx (δ.set i (kb d))
theorem j6 {i:Nat}{x:Str}{pos':Pos}(hN:X.N.Nodup)(he:PD X e ga)(hi:X.N[i]?=kb x:=by rfl)(hx:Loc X.env.scope x:=by trivial)(hs:swapsWith e (kb (.Name x pos')) pos.line X.env=pure V1:=by rfl)(hf:X.fn x=V0\/X.env.scope.names.lookup x=kb .local:=by trivial) :
  PDS X (.Assign [.Name x pos'] e pos) (jW i ga):=(jn hN hi hx he hs hf).of λ D σ H hz2=>by
 obtain⟨δ,r,S,e,q⟩:=hz2;obtain⟨d,e1,e⟩:=iP e;subst e;exact⟨δ,d,S,e1,λ v H1 s1 i1=>q H1 s1 _ ((S.ext s1).set i1)⟩
theorem IZ {i:Nat}{x:Str}{px spos:Pos}(hN:X.N.Nodup)(hc:X.calm=V0)(S:kq X scope own fr ix)(hi:PI X tg iter (iD X.K gi))(hg:∀ C s H fp,PG (X.comp (own++fr) scope C s H fp) tg g)(hgo:yt own.length g)(hgd:GD X.K g gg)
  (ht:∀ C s H fp,PF (X.comp (own++fr) scope C s H fp) ifs (tDT X.K gt)) (he:∀ C s H fp,PE (X.comp (own++fr) scope C s H fp) elt (tD X.K ge)) (hi':X.N[i]?=kb x:=by rfl) (hx:Loc X.env.scope x:=by trivial)
  (hsw:swapsWith (.ListComp elt [⟨tg,iter,ifs,0⟩] scope pos) (kb (.Name x px)) spos.line X.env=pure V0:=by rfl) (hf:X.fn x=V0\/X.env.scope.names.lookup x=kb .local:=by trivial) (hs:∀ x,foldedSetIterable iter X.env x=pure x:=by intro _;rfl) :
  PDS X (.Assign [.Name x px] (.ListComp elt [⟨tg,iter,ifs,0⟩] scope pos) spos) (jW i (gLC own ix gi gg gt ge)):=(NQ hN hi' hx hc S hi hg hgo ht he hsw hf hs).of λ D σ H hz3=>by
 obtain⟨δ,r,S,e,q⟩:=hz3;obtain⟨d,e1,e⟩:=iP e;subst e;exact IY hgd σ H _ ⟨δ,d,S,e1,λ v H1 s1 i1=>q H1 s1 _ ((S.ext s1).set i1)⟩
def sH (gg:Dt->DE->g6 DE)(g:DE->g6 Dt):DE->g6 RD:=λ δ=>(g δ).bind λ d=>(gg d δ).map .nx
theorem uh (he:PD X e ga)(hg:PG X tg g)(hgd:GD X.K g gg)(hs:swapsWithSole [tg] e pos.line X.env=pure V1:=by rfl)(hw:swappedStores [tg] e X.env=pure My:=by rfl)
  (h1:(assignEach [tg] X.env).map (·.2)=[assign tg X.env]:=by rfl):PDS X (.Assign [tg] e pos) (sH gg ga):=(tT he hg hs hw h1).of λ D σ H hz4=>by
 obtain⟨δ,r,S,e,q⟩:=hz4;obtain⟨d,e1,e⟩:=hZ e;obtain⟨δ',e2,e⟩:=iP e;subst e;exact⟨δ,d,S,e1,λ v H1 s1 i1=>hgd H1 v d σ δ δ' _ i1 (S.ext s1) e2 λ σ' S'=>q H1 s1 σ' S'⟩
def jk (g:DE->g6 Dt):DE->g6 RD:=λ δ=>(g δ).map .rt
theorem i8 (he:PD X e ga):PDS X (.Return (kb e) pos) (jk ga):=(lu he).of λ D σ H hz5=>by obtain⟨δ,r,S,e,q⟩:=hz5;obtain⟨d,e1,e⟩:=iP e;subst e;exact⟨δ,d,S,e1,λ v H1 s1 i1=>q H1 s1 v i1⟩
def lL (g:DE->g6 Dt):DE->g6 RD:=λ δ=>(g δ).map λ _=>.nx δ
theorem kE (he:PD X e ga)(hs:swapsWith e My pos.line X.env=pure V1:=by rfl):PDS X (.Expr e pos) (lL ga):=(r_ he hs).of λ D σ H hz6=>by obtain⟨δ,r,S,e,q⟩:=hz6;obtain⟨d,e1,e⟩:=iP e;subst e;exact⟨δ,d,S,e1,λ v H1 s1 i1=>q H1 s1 σ (S.ext s1)⟩
def lJ (gc:DE->g6 Bool)(g g':DE->g6 RD):DE->g6 RD:=λ δ=>(gc δ).bind λ k=>if k=V0 then g δ else g' δ
theorem lC {gc:DE->g6 Bool}{sa sb:List Stmt}(hc:PDT X c gc)(ha:DJ X sa gs)(hb:DJ X sb gs'):PDS X (.If c sa sb pos) (lJ gc gs gs'):=(uW hc ha hb).of λ D σ H hz7=>by
 obtain⟨δ,r,S,e,q⟩:=hz7;obtain⟨k,e1,e⟩:=hZ e;refine⟨δ,k,S,e1,λ H1 s1=>?_⟩;cases k with
 | true=>rw[ae rfl]at e ⊢;exact⟨δ,r,S.ext s1,e,λ H2 s2=>q H2 (s1.trans s2)⟩
 | false=>rw[ag ax]at e ⊢;exact⟨δ,r,S.ext s1,e,λ H2 s2=>q H2 (s1.trans s2)⟩
def mM:DE->g6 RD:=λ _=>My
theorem mO:PDS X st mM:=λ _ _ _ _ _ _ ⟨_,_,_,e,_⟩=>by cases e
def pE (gg:Dt->DE->g6 DE)(gb:DE->g6 RD):DE->List Dt->g6 RD
 | δ,[]=>kb (.nx δ)
 | δ,d::r=>(gg d δ).bind λ δ'=>(gb δ').bind λ x=>match x with
  | .nx δ''=>pE gg gb δ'' r
  | .rt v=>kb (.rt v)
def DK (gi:DE->g6 (List Dt))(gg:Dt->DE->g6 DE)(gb:DE->g6 RD):DE->g6 RD:=λ δ=>(gi δ).bind λ ds=>pE gg gb δ ds
theorem Ad {body:List Stmt}(hp:PassesOwn (model X.prog X.w) X.A X.env X.xe)(hc:X.calm=V0)(hi:PI X tg iter (iD X.K gi))(hg:PG X tg g)(hgd:GD X.K g gg)(hb:DJ X body gs)
  (hs:∀ x,foldedSetIterable iter X.env x=pure x:=by intro _;rfl):PDS X (.For tg iter body [] pos) (DK gi gg gs):=(oH hp hc hi hg hb hs).of λ D σ H hz8=>by
 obtain⟨δ,r,S,e,q⟩:=hz8;obtain⟨ds,e1,e⟩:=hZ e;refine⟨δ,ds,S,e1,λ J H1 s1 ok=>?_⟩;refine⟨λ i m σ' H'=>m=ds.length-i/\i<=ds.length/\iA H1 H'/\∃ δ',Sat X.K H' σ' δ'/\pE gg gs δ' (ds.drop i)=kb r,⟨_,rfl,aZ _,iA.refl _,δ,S.ext s1,by simpa using e⟩,?_⟩;rintro i m σ' H' ⟨rfl,hi,s2,δ',S',e3⟩;obtain⟨items,stop⟩:=ok H' s2;by_cases hlt:i<ds.length
 ·right
  have hdi:ds[i]?=kb ds[i]:=by simp[hlt]
  obtain⟨go,yld⟩:=items i _ hdi;rw[cR hlt]at e3;obtain⟨δ1,f1,e3⟩:=hZ (show(gg ds[i] δ').bind _=_ from e3);obtain⟨x,f2,e3⟩:=hZ e3;refine⟨go,λ σ2 H2=>∃ δ2,x=.nx δ2/\iA H1 H2/\Sat X.K H2 σ2 δ2,?_,λ v H'' hyl=>?_⟩
  ·rintro σ2 H2 ⟨δ2,rfl,s5,S5⟩;exact⟨_,by lia,rfl,hlt,s5,δ2,S5,e3⟩
  ·obtain⟨s3,iv⟩:=yld v H'' hyl
   refine hgd H'' v ds[i] σ' δ' δ1 _ iv (S'.ext s3) f1 λ σ2 S2=>⟨δ1,x,S2,f2,λ H3 s4=>?_⟩;cases x with
   | nx δ2=>exact λ σ3 S3=>⟨δ2,rfl,(s2.trans s3).trans s4,S3⟩
   | rt d=>cases e3;exact q H3 (((s1.trans s2).trans s3).trans s4)
 ·left
  have hi:i=ds.length:=by lia
  subst hi;rw[fA]at e3;cases e3;exact⟨stop,q H' (s1.trans s2) σ' S'⟩
def PK (i j:Nat)(g:DE->g6 (List Dt)):DE->g6 RD:=λ δ=>(g δ).bind λ ds=>match ds with
 | [x,y]=>kb (.nx ((δ.set i (kb x)).set j (kb y)))
 | _=>My
theorem lO {i j:Nat}{x y:Str}{gl:DE->g6 (List Dt)}{px py pt:Pos}{kt k2 pt2}(hc:X.calm=V0)(hN:X.N.Nodup)(ha:PDs X [a,b] gl)(hij:i≠j:=by decide)(hi:X.N[i]?=kb x:=by rfl)(hj:X.N[j]?=kb y:=by rfl)
  (hx:X.env.scope.names.lookup x=kb .local:=by rfl) (hy:X.env.scope.names.lookup y=kb .local:=by rfl)
  (hw:swappedStores [.Tuple [.Name x px,.Name y py] kt pt] (.Tuple [a,b] k2 pt2) X.env=pure (kb [x,y]):=by rfl)
  (hs:swapsWithSole [.Tuple [.Name x px,.Name y py] kt pt] (.Tuple [a,b] k2 pt2) pos.line X.env=pure V1:=by rfl) :
  PDS X (.Assign [.Tuple [.Name x px,.Name y py] kt pt] (.Tuple [a,b] k2 pt2) pos) (PK i j gl):=(OX hc hN hi hj hij hx hy ha hw hs).of λ D σ H hz9=>by
 obtain⟨δ,r,S,e,q⟩:=hz9;obtain⟨ds,e1,e⟩:=hZ e;match ds,e with
 | [d1,d2],e =>
  cases e;refine⟨δ,_,S,e1,λ vs H1 s1 i1=>?_⟩;cases i1 with
  | cons i1 i2 =>
   cases i2 with
   | cons i2 i3 =>cases i3;exact⟨_,_,rfl,q H1 s1 _ (((S.ext s1).set i1).set i2)⟩
end
def PL:RD->Dt
 | .rt d=>d
 | .nx _=>.non
def oP (N:List Str)(ds:List Dt):DE:=ds.map kb++V3 (N.length-ds.length) My
section
variable {P:Program}{w:World}{K:g9}{mg:gZ}{base:Heap}
theorem Fun.okD {x qual:Str}{st:Stmt}{f:Addr}{fd:FuncData}{N ps:List Str}{k:Nat}{fD:List Dt->g6 Dt}{g:DE->g6 RD}(F:Fun K x qual st f fd)(S:iL N ps (il st))
  (hbody:∀ (cdv:g_) (A:Around) (outer:List Env) (s:hE) (H:Hp) (E:XK),kN k (A.deeper (envOfC qual (il st) s.heap.objs.size f cdv)) ->
   PSs (se CX0 P w K mg base N qual (il st) f cdv A outer s H E).nox (kC st) (tDS K g))
  (hg:∀ ds d,ds.length=ps.length->fD ds=kb d->∃ r,g (oP N ds)=kb r/\PL r=d):oJ P w K mg base CX0 (k+1) f fd ps (spD K ps.length fD):=by
 refine F.ok S (λ vs H Q E h=>?_) (λ cdv A outer s H vs Q E hr h=>?_)
 ·obtain⟨ds,d,hl,is,_⟩:=h;rw[is.length,hl]
 ·obtain⟨ds,d,hl,is,e,q⟩:=h
  obtain⟨r,e1,e2⟩:=hg ds d hl e;refine⟨_,hbody cdv A outer s H E hr,oP N ds,r,is.start,e1,λ H' s'=>?_⟩;cases r with
  | nx δ=>subst e2;exact λ σ _=>q _ H' s' .non
  | rt d'=>subst e2;exact λ v iv=>q v H' s' iv
end
section
variable {X:Cx}{e a b c:Expr}{es:List Expr}{pos:Pos}
theorem opD {f:g_->g_->Sem g_}{r:R2}{fD:Dt->Dt->g6 Dt}(h:OpR X f r)(w:∀ x y H Q dx dy d,Is X.K H x dx->Is X.K H y dy->fD dx dy=kb d->(∀ v H',iA H H'->Is X.K H' v d->Q v H')->r x y H Q):OpR X f (rD X.K fD) :=
 λ pins s σ H x y v u Q I rx ry ⟨dx,dy,d,i1,i2,e,q⟩=>h pins s σ H x y v u Q I rx ry (w x y H Q dx dy d i1 i2 e q)
theorem BF {f:g_}{r:List V->Hp->VK->Prop}{fD:List Dt->g6 Dt}(h:j3 X f r)(w:∀ xs H Q ds d,Iss X.K H xs ds->fD ds=kb d->(∀ v H',iA H H'->Is X.K H' v d->Q v H')->r xs H Q):j3 X f (cD X.K fD) :=
 λ pins s σ H xs us Q I rx ⟨ds,d,i1,e,q⟩=>h pins s σ H xs us Q I rx (w xs H Q ds d i1 e q)
def dI (g:Int->Int->Int):Dt->Dt->g6 Dt
 | .int i,.int j=>kb (.int (g i j))
 | _,_=>My
def dIB (g:Int->Int->Bool):Dt->Dt->g6 Dt
 | .int i,.int j=>kb (.bl (g i j))
 | _,_=>My
def bd (i:Int):Prop:=i.natAbs<2 ^ 4000
instance (i:Int):Decidable (bd i):=inferInstanceAs (Decidable (i.natAbs<2 ^ 4000))
def dIC (C:Int->Int->Prop)[∀ i j,Decidable (C i j)](g:Int->Int->Int):Dt->Dt->g6 Dt
 | .int i,.int j=>if C i j then kb (.int (g i j)) else My
 | _,_=>My
theorem PM {g:Int->Int->Int}{x y d:Dt}(h:dI g x y=kb d):∃ i j,x=.int i/\y=.int j/\d=.int (g i j):=by
 cases x with
 | int i=>cases y with
  | int j=>exact⟨_,_,rfl,rfl,(aF h).symm⟩
  | _=>cases h
 | _=>cases h
theorem LY {g:Int->Int->Bool}{x y d:Dt}(h:dIB g x y=kb d):∃ i j,x=.int i/\y=.int j/\d=.bl (g i j):=by
 cases x with
 | int i=>cases y with
  | int j=>exact⟨_,_,rfl,rfl,(aF h).symm⟩
  | _=>cases h
 | _=>cases h
theorem LZ {C:Int->Int->Prop}[∀ i j,Decidable (C i j)]{g:Int->Int->Int}{x y d:Dt}(h:dIC C g x y=kb d):∃ i j,x=.int i/\y=.int j/\C i j/\d=.int (g i j):=by
 cases x with
 | int i=>cases y with
  | int j =>
   have h:(if C i j then kb (Dt.int (g i j)) else My)=kb d:=h;by_cases hc:C i j
   ·rw[ae hc]at h;exact⟨_,_,rfl,rfl,hc,(aF h).symm⟩
   ·rw[ag hc]at h;cases h
  | _=>cases h
 | _=>cases h
theorem oI0 {f:g_->g_->Sem g_}{g:Int->Int->Int}(h:OpR X f (rI0 λ i j=>.int (g i j))):OpR X f (rD X.K (dI g)):=opD h λ x y H Q dx dy d i1 i2 e q=>by obtain⟨i,j,rfl,rfl,rfl⟩:=PM e;exact⟨i,j,i1.int_inv,i2.int_inv,q _ H (iA.refl H) (.int _)⟩
theorem oB0 {f:g_->g_->Sem g_}{g:Int->Int->Bool}(h:OpR X f (rI0 λ i j=>.bl (g i j))):OpR X f (rD X.K (dIB g)):=opD h λ x y H Q dx dy d i1 i2 e q=>by obtain⟨i,j,rfl,rfl,rfl⟩:=LY e;exact⟨i,j,i1.int_inv,i2.int_inv,q _ H (iA.refl H) (.bl _)⟩
theorem oIC {f:g_->g_->Sem g_}{C C':Int->Int->Prop}[∀ i j,Decidable (C i j)]{g:Int->Int->Int}(h:OpR X f (rI C' λ i j=>.int (g i j)))(w:∀ i j,C i j->C' i j):OpR X f (rD X.K (dIC C g)):=opD h λ x y H Q dx dy d i1 i2 e q=>by obtain⟨i,j,rfl,rfl,hc,rfl⟩:=LZ e;exact⟨i,j,i1.int_inv,i2.int_inv,w i j hc,q _ H (iA.refl H) (.int _)⟩
theorem RT:OpR X (binaryOp .Add) (rD X.K (dI (·+·))):=oI0 nN
theorem Fm:OpR X (binaryOp .Sub) (rD X.K (dI (·-·))):=oI0 v_
theorem L4:OpR X (compareOp .Lt) (rD X.K (dIB λ i j=>decide (i<j))):=oB0 NC
theorem L5:OpR X (compareOp .LtE) (rD X.K (dIB λ i j=>decide (i<=j))):=oB0 RA
theorem Ut:OpR X (compareOp .GtE) (rD X.K (dIB λ i j=>decide (j<=i))):=oB0 ND
theorem Fn {i:Int}(h:bd i):Builtin.Int.intBits i<=2 ^ 20:=bg (PyProof.Rows.intBits_le h) (by decide)
theorem PN {i:Int}(h:bd i):i.natAbs.log2<9000:=by
 by_cases h0:i.natAbs=0
 ·rw[h0];decide +kernel
 ·exact(Nat.log2_lt h0).mpr (aB h (dS (by decide) (by decide)))
abbrev pL:=dIC (λ i j=>bd i/\bd j) (·*·)
abbrev GK:=dIC (λ _ j=>0<j/\bd j) (· / ·)
abbrev Uu:=dIC (λ _ j=>0<j) (· % ·)
theorem pF:OpR X (binaryOp .Mult) (rD X.K pL):=oIC (C':=IntMulOk) (opI λ _ _ _ _ _ _ _ hc q=>mul_int q hc) λ i j h=>IntMulOk.of_bits (Fn h.1) (Fn h.2)
theorem BG:OpR X (binaryOp .FloorDiv) (rD X.K GK):=oIC (C':=λ i j=>0<j/\bd j) (opI λ i j _ _ _ _ _ hc q=>by have h1:(0:Int)<j:=hc.1;exact floordiv_int (by lia) (by rw[fV i (by lia)];exact q) (.inl (PyProof.noPylong_of_log2 (PN hc.2)))) λ i j h=>h
theorem NU:OpR X (binaryOp .Mod) (rD X.K Uu):=oIC tV λ i j h=>h
mutual
inductive Sh:Dt->Dt->Prop
 | int (i j:Int):Sh (.int i) (.int j)
 | bl (i j:Bool):Sh (.bl i) (.bl j)
 | str (i j:Str):Sh (.str i) (.str j)
 | tup {ds es:List Dt}:Shs ds es->Sh (.tup ds) (.tup es)
inductive Shs:List Dt->List Dt->Prop
 | nil (es:List Dt):Shs [] es
 | VQ (es:List Dt):Shs es []
 | cons {d e:Dt} {ds es:List Dt}:Sh d e->Shs ds es->Shs (d::ds) (e::es)
end
mutual
def dEq:Dt->Dt->Bool
 | .int i,.int j=>i==j
 | .bl i,.bl j=>i==j
 | .str i,.str j=>i==j
 | .tup ds,.tup es=>kM ds es
 | _,_=>V1
def kM:List Dt->List Dt->Bool
 | [],[]=>V0
 | d::ds,e::es=>dEq d e&&kM ds es
 | _,_=>V1
end
def sh1:Dt->Dt->Bool
 | .int _,.int _=>V0
 | .bl _,.bl _=>V0
 | .str _,.str _=>V0
 | _,_=>V1
def wX:List Dt->List Dt->Bool
 | d::ds,e::es=>sh1 d e&&wX ds es
 | _,_=>V0
def sh2:Dt->Dt->Bool
 | .tup ds,.tup es=>wX ds es
 | d,e=>sh1 d e
def rC:List Dt->List Dt->Bool
 | d::ds,e::es=>sh2 d e&&rC ds es
 | _,_=>V0
def sh3:Dt->Dt->Bool
 | .tup ds,.tup es=>rC ds es
 | d,e=>sh1 d e
theorem yv (e:Nat->Bool):∀ (n:Nat),(V2 (n+1)).all e=(e 0&&(V2 n).all λ i=>e (i+1)):=λ n=>by rw[List.range_succ_eq_map,List.all_cons,gK];rfl
def eAt (ds es:List Dt)(j:Nat):Bool:=match ds[j]?,es[j]? with
 | some d,kb e=>dEq d e
 | _,_=>V1
theorem Fo:∀ (ds es:List Dt),((V2 (min ds.length es.length)).all (eAt ds es)&&ds.length==es.length)=kM ds es
 | [],[]=>rfl
 | [],e::es=>by simp[kM]
 | d::ds,[]=>by simp[kM]
 | d::ds,e::es=>by
  have ih:=Fo ds es;rw[kM,<-ih];simp only[aW];rw[Nat.succ_min_succ,yv];have:(λ i=>eAt (d::ds) (e::es) (i+1))=eAt ds es:=by funext i;simp[eAt]
  rw[this];have h0:eAt (d::ds) (e::es) 0=dEq d e:=rfl;rw[h0,Bool.and_assoc];congr 2;simp
variable {pins:hJ}{σ:St}{H:Hp}{s:hE}
theorem Iss.vals {xs:List V}{ds:List Dt}(I:Inv X pins σ H s)(is:Iss X.K H xs ds){its:List g_}(r:Vals xs its){j:Nat}{d:Dt}(h:ds[j]?=kb d):∃ v u,its[j]?=kb u/\RelV v u/\Is X.K H v d:=by obtain⟨v,hv,iv⟩:=is.get h;obtain⟨u,hu,ru⟩:=r.get hv;exact⟨v,u,hu,ru,iv⟩
end
open PySem.SeqAt
section
variable {X:Cx}{e a b c:Expr}{es:List Expr}{pos:Pos}{pins:hJ}{σ:St}{H:Hp}{s:hE}
theorem Fp {i j:Int}:dEq (.int i) (.int j)=(i==j):=by simp[dEq]
theorem I9 {i j:Bool}:dEq (.bl i) (.bl j)=(i==j):=by simp[dEq]
theorem vO {i j:Str}:dEq (.str i) (.str j)=(i==j):=by simp[dEq]
theorem lW {i j:List Dt}:dEq (.tup i) (.tup j)=kM i j:=by simp[dEq]
theorem Fq {A:Around}{d d':Dt}{v v':V}{u u':g_}(sh:sh1 d d'=V0)(i:Is X.K H v d)(i':Is X.K H v' d')(r:RelV v u)(r':RelV v' u'):EqAt A s u u' (dEq d d'):=by
 cases d<;>cases d'<;>simp[sh1]at sh
 ·rw[i.kT]at r;rw[i'.kT]at r';cases r;cases r';rw[I9];exact EqAt.bool_bool _ _
 ·rw[i.int_inv]at r;rw[i'.int_inv]at r';obtain⟨t,rfl⟩:=r;obtain⟨t',rfl⟩:=r';rw[Fp];exact EqAt.int_int _ _ _ _
 ·rw[i.str_inv]at r;rw[i'.str_inv]at r';obtain⟨t,rfl⟩:=r;obtain⟨t',rfl⟩:=r';rw[vO];exact EqAt.str_str _ _ _ _
theorem NV {d d':Dt}{v:V}(sh:sh1 d d'=V0)(i:Is X.K H v d)(i':Is X.K H v d'):dEq d d'=V0:=by
 cases d<;>cases d'<;>simp[sh1]at sh
 ·have:=i.kT.symm.trans i'.kT;cases this;simp[dEq]
 ·have:=i.int_inv.symm.trans i'.int_inv;cases this;simp[dEq]
 ·have:=i.str_inv.symm.trans i'.str_inv;cases this;simp[dEq]
theorem DL:∀ {ds es:List Dt} {vs:List V},wX ds es=V0->Iss X.K H vs ds->Iss X.K H vs es->kM ds es=V0
 | [],[],_,_,_,_=>by simp[kM]
 | [],e::es,_,_,i,j=>by cases i;cases j
 | d::ds,[],_,_,i,j=>by cases j;cases i
 | d::ds,e::es,_,h,i,j=>by
  cases i with
  | cons i1 i2 =>
   cases j with
   | cons j1 j2 =>rw[wX,bJ]at h;rw[kM,NV h.1 i1 j1,DL h.2 i2 j2];rfl
theorem wY:∀ {ds es:List Dt},wX ds es=V0->∀ {j:Nat} {d e:Dt},ds[j]?=kb d->es[j]?=kb e->sh1 d e=V0
 | [],_,_,j,d,e,h,_=>by simp at h
 | _::_,[],_,j,d,e,_,h=>by simp at h
 | d::ds,e::es,h,0,_,_,h1,h2=>by rw[wX,bJ]at h;simp at h1 h2;subst h1;subst h2;exact h.1
 | d::ds,e::es,h,j+1,_,_,h1,h2=>by rw[wX,bJ]at h;exact wY h.2 (by simpa using h1) (by simpa using h2)
theorem sI:∀ {ds es:List Dt},rC ds es=V0->∀ {j:Nat} {d e:Dt},ds[j]?=kb d->es[j]?=kb e->sh2 d e=V0
 | [],_,_,j,d,e,h,_=>by simp at h
 | _::_,[],_,j,d,e,_,h=>by simp at h
 | d::ds,e::es,h,0,_,_,h1,h2=>by rw[rC,bJ]at h;simp at h1 h2;subst h1;subst h2;exact h.1
 | d::ds,e::es,h,j+1,_,_,h1,h2=>by rw[rC,bJ]at h;exact sI h.2 (by simpa using h1) (by simpa using h2)
theorem qG {A:Around}{ds es:List Dt}{xs ys:List V}{its its':List g_}(is:Iss X.K H xs ds)(js:Iss X.K H ys es)(r:Vals xs its)(r':Vals ys its')
  (h:∀ {j:Nat} {d e:Dt} {v v':V} {u u':g_},ds[j]?=kb d->es[j]?=kb e->Is X.K H v d->Is X.K H v' e->RelV v u->RelV v' u'->EqAt A s u u' (dEq d e)) :
  ∀ j (h1:j<its.toArray.size) (h2:j<its'.toArray.size),EqAt A s its.toArray[j] its'.toArray[j] (eAt ds es j):=by
 intro j h1 h2;have l1:=is.length;have l2:=js.length;have l3:=r.length;have l4:=r'.length;simp only[aC]at h1 h2;have hd:ds[j]?=kb (ds[j]'(by lia)):=by simp[show j<ds.length by lia]
 have he:es[j]?=kb (es[j]'(by lia)):=by simp[show j<es.length by lia]
 obtain⟨v,hv,iv⟩:=is.get hd;obtain⟨v',hv',iv'⟩:=js.get he;obtain⟨u,hu,ru⟩:=r.get hv;obtain⟨u',hu',ru'⟩:=r'.get hv';have e1:its[j]=u:=by rw[aH h1]at hu;exact aF hu
 have e2:its'[j]=u':=by rw[aH h2]at hu';exact aF hu'
 have e3:eAt ds es j=dEq (ds[j]'(by lia)) (es[j]'(by lia)):=by unfold eAt;rw[hd,he]
 rw[e3];simp only[List.getElem_toArray,e1,e2];exact h hd he iv iv' ru ru'
theorem oh {ds es:List Dt}{xs ys:List V}{its its':List g_}(is:Iss X.K H xs ds)(js:Iss X.K H ys es)(r:Vals xs its)(r':Vals ys its') :
  ((V2 (min its.toArray.size its'.toArray.size)).all (eAt ds es)&&its.toArray.size==its'.toArray.size)=kM ds es:=by
 rw[<-Fo,aC,aC,<-r.length,<-r'.length,is.length,js.length]
theorem Fs {d d':Dt}(sh:sh2 d d'=V0)(ht:¬ ∃ ds es,d=.tup ds/\d'=.tup es):sh1 d d'=V0:=by
 cases d with
 | tup ds=>cases d' with
  | tup es=>exact(ht ⟨_,_,rfl,rfl⟩).elim
  | _=>exact sh
 | _=>exact sh
theorem Ae {d d':Dt}(sh:sh3 d d'=V0)(ht:¬ ∃ ds es,d=.tup ds/\d'=.tup es):sh1 d d'=V0:=by
 cases d with
 | tup ds=>cases d' with
  | tup es=>exact(ht ⟨_,_,rfl,rfl⟩).elim
  | _=>exact sh
 | _=>exact sh
theorem Fu {A:Around}(I:Inv X pins σ H s)(hu:A.units<cLine){d d':Dt}{v v':V}{u u':g_}(sh:sh2 d d'=V0)(i:Is X.K H v d)(i':Is X.K H v' d')(r:RelV v u)(r':RelV v' u'):EqAt A s u u' (dEq d d'):=by
 by_cases ht:∃ ds es,d=.tup ds/\d'=.tup es
 ·obtain⟨ds,es,rfl,rfl⟩:=ht
  obtain⟨p,xs,rfl,hp,is⟩:=i.iR;obtain⟨q,ys,rfl,hq,js⟩:=i'.iR;cases r;cases r';have sh:wX ds es=V0:=sh;rw[lW];by_cases hpq:p=q
  ·subst hpq;have:=I.nS hp hq;subst this;rw[DL sh is js];exact EqAt.same _
  ·obtain⟨its,rv,t1,_⟩:=I.tuple hp
   obtain⟨its',rv',t2,_⟩:=I.tuple hq;refine EqAt.of_refs hpq ?_;have:=RcAt.tuples (A:=A) (s:=s) (l:=p) (b:=q) (items:=its.toArray) (items2:=its'.toArray) (e:=eAt ds es) t1 t2 hu
    (qG is js rv rv' λ h1 h2 i1 i2 r1 r2=>Fq (wY sh h1 h2) i1 i2 r1 r2)
   rw[oh is js rv rv']at this;exact this
 ·have sh:=Fs sh ht;exact Fq sh i i' r r'
def kX:Dt->Dt->g6 Dt:=λ d d'=>if sh3 d d'=V0 then kb (.bl (dEq d d')) else My
def lK:Dt->Dt->g6 Dt:=λ d d'=>if sh3 d d'=V0 then kb (.bl (!dEq d d')) else My
theorem I_ {d d' r:Dt}(h:kX d d'=kb r):sh3 d d'=V0/\r=.bl (dEq d d'):=by
 unfold kX at h;split at h
 ·cases h;exact⟨by assumption,rfl⟩
 ·cases h
theorem Ja {d d' r:Dt}(h:lK d d'=kb r):sh3 d d'=V0/\r=.bl (!dEq d d'):=by
 unfold lK at h;split at h
 ·cases h;exact⟨by assumption,rfl⟩
 ·cases h
theorem Af {d d':Dt}{v v':V}(sh:sh1 d d'=V0)(i:Is X.K H v d)(i':Is X.K H v' d'):O2 v v'=V0/\decide (v=v')=dEq d d':=by
 cases d with
 | bl b=>cases d' with
  | bl c=>rw[i.kT,i'.kT,I9];exact⟨rfl,Dc⟩
  | _=>cases sh
 | int b=>cases d' with
  | int c=>rw[i.int_inv,i'.int_inv,Fp];exact⟨rfl,zP⟩
  | _=>cases sh
 | str b=>cases d' with
  | str c=>rw[i.str_inv,i'.str_inv,vO];exact⟨rfl,zQ⟩
  | _=>cases sh
 | _=>cases sh
theorem BH (hu:X.A.units+2<cLine):OpR X (compareOp .Eq) (rD X.K kX):=by
 intro pins s σ H x y v u Q I rx ry ⟨d,d',r,i,i',e,q⟩;obtain⟨sh,rfl⟩:=I_ e;by_cases ht:∃ ds es,d=.tup ds/\d'=.tup es
 ·obtain⟨ds,es,rfl,rfl⟩:=ht;obtain⟨p,xs,rfl,hp,is⟩:=i.iR;obtain⟨p',ys,rfl,hq,js⟩:=i'.iR;cases rx;cases ry;have sh:rC ds es=V0:=sh;obtain⟨its,rv,t1,_⟩:=I.tuple hp;obtain⟨its',rv',t2,_⟩:=I.tuple hq;refine eq_tupleAt (e:=eAt ds es) t1 t2 (by lia) (qG is js rv rv' λ h1 h2 i1 i2 r1 r2=>Fu I (by show X.A.units+1<cLine;lia) (sI sh h1 h2) i1 i2 r1 r2) ?_;rw[oh is js rv rv'];exact⟨.bl _,H,I,rfl,q _ H (iA.refl H) (by rw[lW];exact .bl _)⟩
 ·have sh:=Ae sh ht;obtain⟨s1,s2⟩:=Af sh i i';exact Rz pins s σ H x y v u Q I rx ry ⟨s1,by rw[s2];exact q _ H (iA.refl H) (.bl _)⟩
theorem BJ (hu:X.A.units+2<cLine):OpR X (compareOp .NotEq) (rD X.K lK):=by
 intro pins s σ H x y v u Q I rx ry ⟨d,d',r,i,i',e,q⟩;obtain⟨sh,rfl⟩:=Ja e;by_cases ht:∃ ds es,d=.tup ds/\d'=.tup es
 ·obtain⟨ds,es,rfl,rfl⟩:=ht;obtain⟨p,xs,rfl,hp,is⟩:=i.iR;obtain⟨p',ys,rfl,hq,js⟩:=i'.iR;cases rx;cases ry;have sh:rC ds es=V0:=sh;obtain⟨its,rv,t1,_⟩:=I.tuple hp;obtain⟨its',rv',t2,_⟩:=I.tuple hq;have:=RcNeAt.tuples (A:=X.A) (s:=s) (l:=p) (b:=p') (items:=its.toArray) (items2:=its'.toArray) (e:=eAt ds es) t1 t2 (by lia) (qG is js rv rv' λ h1 h2 i1 i2 r1 r2=>Fu I (by show X.A.units+1<cLine;lia) (sI sh h1 h2) i1 i2 r1 r2);rw[oh is js rv rv']at this;exact this X.prog X.w X.xe _ ⟨.bl _,H,I,rfl,q _ H (iA.refl H) (by rw[lW];exact .bl _)⟩
 ·have sh:=Ae sh ht;obtain⟨s1,s2⟩:=Af sh i i';exact HV pins s σ H x y v u Q I rx ry ⟨s1,by rw[s2];exact q _ H (iA.refl H) (.bl _)⟩
def Uv:Dt->Dt->g6 Dt
 | .bl i,.bl j=>kb (.bl (i==j))
 | _,_=>My
def Jb:Dt->Dt->g6 Dt
 | .bl i,.bl j=>kb (.bl (i != j))
 | _,_=>My
def yw:Dt->g6 Int
 | .int i=>kb i
 | _=>My
def kn:List Dt->g6 (List Int)
 | []=>kb []
 | d::ds=>(yw d).bind λ i=>(kn ds).map (i::·)
theorem pY {d:Dt}{i:Int}(h:yw d=kb i):d=.int i:=by cases d<;>simp[yw]at h;rw[h]
theorem k_:∀ {ds:List Dt} {l:List Int},kn ds=kb l->ds=l.map .int
 | [],l,h=>by cases h;rfl
 | d::ds,l,h=>by obtain⟨i,e1,h⟩:=hZ h;obtain⟨r,e2,h⟩:=iP h;subst h;rw[pY e1,k_ e2];rfl
@[simp] theorem om (l:List Int):kn (l.map .int)=kb l:=by
 induction l with
 | nil=>rfl
 | cons i r ih=>show(kb i).bind (λ i=>(kn (r.map .int)).map (i::·))=_;rw[ih];rfl
def Jc:Dt->Dt->g6 Dt
 | .tup ds,.tup es=>(kn ds).bind λ ns=>(kn es).map λ ms=>.bl (HT.lexLt ns ms)
 | _,_=>My
theorem Jd {x y d:Dt}(e:Jc x y=kb d):∃ ns ms:List Int,x=.tup (ns.map .int)/\y=.tup (ms.map .int)/\d=.bl (HT.lexLt ns ms):=by
 cases x with
 | tup ds=>cases y with
  | tup es =>obtain⟨ns,e1,e⟩:=hZ (show(kn ds).bind _=_ from e);obtain⟨ms,e2,e⟩:=iP e;exact⟨ns,ms,by rw[k_ e1],by rw[k_ e2],e.symm⟩
  | _=>cases e
 | _=>cases e
theorem RU (hu:X.A.units<cLine):OpR X (compareOp .Lt) (rD X.K Jc):=opD (O8 hu) λ x y H Q dx dy d i1 i2 e q=>by obtain⟨ns,ms,rfl,rfl,rfl⟩:=Jd e;obtain⟨a,xs,rfl,ha,is⟩:=i1.iR;obtain⟨b,ys,rfl,hb,js⟩:=i2.iR;rw[is.ints]at ha;rw[js.ints]at hb;exact⟨a,b,ns,ms,rfl,rfl,ha,hb,q _ H (iA.refl H) (.bl _)⟩
end
section
variable {X:Cx}{e a b c:Expr}{es:List Expr}{pos:Pos}{pins:hJ}{σ:St}{H:Hp}{s:hE}
def dIx:Dt->Dt->g6 Dt
 | .tup ds,.int i=>atI ds i
 | .lst ds,.int i=>atI ds i
 | _,_=>My
theorem Iss.atI {K:g9}{xs:List V}{ds:List Dt}{i:Int}{d:Dt}(is:Iss K H xs ds)(h:atI ds i=kb d):∃ v,L2.atI xs i=kb v/\Is K H v d:=by unfold L2.atI at h ⊢;obtain⟨j,e1,e2⟩:=hZ h;obtain⟨v,hv,iv⟩:=is.get e2;exact⟨v,by rw[is.length,e1];exact hv,iv⟩
theorem L6 {d d' r:Dt}(e:dIx d d'=kb r):∃ l k,(d=.tup l\/d=.lst l)/\d'=.int k/\L2.atI l k=kb r:=by
 cases d with
 | tup l=>cases d' with
  | int k=>exact⟨l,k,.inl rfl,rfl,e⟩
  | _=>cases e
 | lst l=>cases d' with
  | int k=>exact⟨l,k,.inr rfl,rfl,e⟩
  | _=>cases e
 | _=>cases e
theorem Uw:IxR X (rD X.K dIx):=by
 intro value slice pins s σ H x y v u Q I rx ry ⟨d,d',r,i,i',e,q⟩ hs;obtain⟨l,k,hd,rfl,e⟩:=L6 e;rcases hd with rfl | rfl
 ·obtain⟨p,xs,rfl,hp,is⟩:=i.iR;obtain⟨w,hw,iw⟩:=is.atI e;exact zU value slice pins s σ H _ y v u Q I rx ry ⟨p,xs,_,w,rfl,i'.int_inv,hp,hw,q _ H (iA.refl H) iw⟩ hs
 ·obtain⟨p,xs,rfl,hp,is⟩:=i.lst_inv;obtain⟨w,hw,iw⟩:=is.atI e;exact lV value slice pins s σ H _ y v u Q I rx ry ⟨p,xs,_,w,rfl,i'.int_inv,SqL.of hp,hw,q _ H (iA.refl H) iw⟩ hs
theorem jJ {ga gb:DE->g6 Dt}(ha:PD X a ga)(hb:PD X b gb)(hs:E2 b:=by exact λ _ _=>rfl):PD X (.Subscript a b pos) (iG dIx ga gb):=(nY Uw ha hb hs).of z8
def NW:Dt->g6 Dt
 | .tup (_::ds)=>kb (.tup ds)
 | _=>My
theorem GL {x:V}{xs:List V}:yo (x::xs) (kb 1) My=xs:=by
 unfold yo;have e1:HT.sIx (x::xs).length 0 (kb 1)=1:=by have:=HT.zS (x::xs).length 0 1;rw[show((1:Nat):Int)=1 from rfl]at this;rw[this];simp
 rw[e1,HT.Bk];simp
def yy:Dt->Dt->g6 Dt
 | .lst ds,.lst es=>if ds.length+es.length<=1000 then kb (.lst (ds++es)) else My
 | _,_=>My
theorem Je {x y d:Dt}(e:yy x y=kb d):∃ ds es,x=.lst ds/\y=.lst es/\ds.length+es.length<=1000/\d=.lst (ds++es):=by
 cases x with
 | lst ds=>cases y with
  | lst es =>
   have e:(if ds.length+es.length<=1000 then kb (Dt.lst (ds++es)) else My)=kb d:=e;by_cases hl:ds.length+es.length<=1000
   ·rw[ae hl]at e;exact⟨_,_,rfl,rfl,hl,(aF e).symm⟩
   ·rw[ag hl]at e;cases e
  | _=>cases e
 | _=>cases e
theorem wZ:OpR X (binaryOp .Add) (rD X.K yy):=opD Pb λ x y H Q dx dy d i1 i2 e q=>by obtain⟨ds,es,rfl,rfl,hl,rfl⟩:=Je e;obtain⟨a,xs,rfl,ha,is⟩:=i1.lst_inv;obtain⟨b,ys,rfl,hb,js⟩:=i2.lst_inv;exact⟨a,b,xs,ys,rfl,rfl,ha,hb,qE (by rw[is.length,js.length];exact hl),λ p hp=>q _ _ (iA.upd hp) (.lst ir ((is.append js).ext (iA.upd hp)))⟩
def Jf:Dt->Dt->g6 Dt
 | .lst [d],.int k=>if 0<=k/\k<=1000 then kb (.lst (V3 k.toNat d)) else My
 | _,_=>My
theorem BK {α:Type}(x:α):∀ n,(V3 n [x]).flatten=V3 n x
 | 0=>rfl
 | n+1=>by rw[da,eA,BK x n];rfl
theorem Iss.rep {K:g9}{v:V}{d:Dt}(h:Is K H v d):∀ n,Iss K H (V3 n v) (V3 n d)
 | 0=>.nil
 | n+1=>.cons h (Iss.rep h n)
theorem Jg {x y d:Dt}(e:Jf x y=kb d):∃ d0 k,x=.lst [d0]/\y=.int k/\(0<=k/\k<=1000)/\d=.lst (V3 k.toNat d0):=by
 cases x with
 | lst ds=>cases ds with
  | nil=>cases e
  | cons d0 r=>cases r with
   | cons _ _=>cases e
   | nil=>cases y with
    | int k =>
     have e:(if 0<=k/\k<=1000 then kb (Dt.lst (V3 k.toNat d0)) else My)=kb d:=e;by_cases hk:0<=k/\k<=1000
     ·rw[ae hk]at e;exact⟨_,_,rfl,rfl,hk,(aF e).symm⟩
     ·rw[ag hk]at e;cases e
    | _=>cases e
 | _=>cases e
theorem RV:OpR X (binaryOp .Mult) (rD X.K Jf):=opD Ig λ x y H Q dx dy d i1 i2 e q=>by
 obtain⟨d0,k,rfl,rfl,hk,rfl⟩:=Jg e;obtain⟨a,xs,rfl,ha,is⟩:=i1.lst_inv;cases is with
 | cons j1 j2 =>cases j2;refine⟨a,k,_,rfl,i2.int_inv,ha,by lia,by lia,qE (by simp;lia),λ p hp=>q _ _ (iA.upd hp) (.lst ir ?_)⟩;rw[BK];exact(Iss.rep j1 _).ext (iA.upd hp)
theorem Iss.one {K:g9}{xs:List V}{d:Dt}(h:Iss K H xs [d]):∃ v,xs=[v]/\Is K H v d:=by
 cases h with
 | cons h1 h2=>cases h2;exact⟨_,rfl,h1⟩
theorem Iss.two {K:g9}{xs:List V}{d d':Dt}(h:Iss K H xs [d,d']):∃ v v',xs=[v,v']/\Is K H v d/\Is K H v' d':=by
 cases h with
 | cons h1 h2=>obtain⟨v',rfl,h3⟩:=h2.one;exact⟨_,_,rfl,h1,h3⟩
def sJ (F:Dt->g6 Dt):List Dt->g6 Dt
 | [x]=>F x
 | _=>My
@[simp] theorem RW (F:Dt->g6 Dt) (x:Dt):sJ F [x]=F x:=rfl
theorem kP {F:Dt->g6 Dt}{ds:List Dt}{d:Dt}(e:sJ F ds=kb d):∃ x,ds=[x]/\F x=kb d:=by
 cases ds with
 | nil=>cases e
 | cons x r=>cases r with
  | nil=>exact⟨x,rfl,e⟩
  | cons _ _=>cases e
def yz (F:Dt->Dt->g6 Dt):List Dt->g6 Dt
 | [x,y]=>F x y
 | _=>My
@[simp] theorem RY (F:Dt->Dt->g6 Dt) (x y:Dt):yz F [x,y]=F x y:=rfl
theorem sL {F:Dt->Dt->g6 Dt}{ds:List Dt}{d:Dt}(e:yz F ds=kb d):∃ x y,ds=[x,y]/\F x y=kb d:=by
 cases ds with
 | nil=>cases e
 | cons x r=>cases r with
  | nil=>cases e
  | cons y z=>cases z with
   | nil=>exact⟨x,y,rfl,e⟩
   | cons _ _=>cases e
def Jh:Dt->g6 (List Dt)
 | .tup ds=>kb ds
 | .lst ds=>kb ds
 | _=>My
theorem sM {x:Dt}{l:List Dt}(e:Jh x=kb l):x=.tup l\/x=.lst l:=by
 cases x with
 | tup ds=>exact .inl (by rw[aF e])
 | lst ds=>exact .inr (by rw[aF e])
 | _=>cases e
def qV:List Dt->g6 Dt:=sJ λ x=>(Jh x).map λ ds=>.int ds.length
theorem zj:j3 X (.builtin "len") (cD X.K qV):=BF mr λ xs H Q ds d is e q=>by
 obtain⟨x,rfl,e⟩:=kP e;obtain⟨l,e0,rfl⟩:=iP e;obtain⟨v,rfl,i⟩:=is.one;rcases sM e0 with rfl | rfl
 ·obtain⟨a,ys,rfl,ha,js⟩:=i.iR;exact⟨a,ys,rfl,.inr ha,by rw[js.length];exact q _ H (iA.refl H) (.int _)⟩
 ·obtain⟨a,ys,rfl,ha,js⟩:=i.lst_inv;exact⟨a,ys,rfl,.inl (SqL.of ha),by rw[js.length];exact q _ H (iA.refl H) (.int _)⟩
def w9:Dt->g6 (List Dt)
 | .tup ds=>kb ds
 | _=>My
theorem mP {x:Dt}{l:List Dt}(e:w9 x=kb l):x=.tup l:=by
 cases x with
 | tup ds=>rw[aF e]
 | _=>cases e
def pr2:List Dt->g6 (Int×Int)
 | [x,y]=>(yw x).bind λ a=>(yw y).map λ b=>(a,b)
 | _=>My
theorem vP {l:List Dt}{t:Int×Int}(e:pr2 l=kb t):l=[.int t.1,.int t.2]:=by
 cases l with
 | nil=>cases e
 | cons x r=>cases r with
  | nil=>cases e
  | cons y z=>cases z with
   | cons _ _=>cases e
   | nil =>obtain⟨a,e1,e2⟩:=hZ (show(yw x).bind _=_ from e);obtain⟨b,e3,e4⟩:=iP e2;rw[pY e1,pY e3,<-e4]
@[simp] theorem TQ (a b:Int):pr2 [.int a,.int b]=kb (a,b):=rfl
def dPr (d:Dt):g6 (Int×Int):=(w9 d).bind pr2
theorem Fv {d:Dt}{t:Int×Int}(e:dPr d=kb t):d=.tup [.int t.1,.int t.2]:=by obtain⟨l,e1,e2⟩:=hZ e;rw[mP e1,vP e2]
@[simp] theorem TR (a b:Int):dPr (.tup [.int a,.int b])=kb (a,b):=rfl
def PQ:Dt->g6 (List (Int×Int))
 | .dct ds=>kb ds
 | _=>My
theorem Ji {x:Dt}{l:List (Int×Int)}(e:PQ x=kb l):x=.dct l:=by
 cases x with
 | dct ds=>rw[aF e]
 | _=>cases e
def Jj:List Dt->g6 Dt:=sJ λ x=>(PQ x).map λ ds=>.int ds.length
theorem GN:j3 X (.builtin "len") (λ xs H Q=>∃ a kvs,xs=[V.ref a]/\Rd H a (.dK kvs)/\Q (.int kvs.length) H):=by intro pins s σ H xs us Q I r h;obtain⟨a,kvs,rfl,ha,q⟩:=h;obtain⟨u,rfl,ru⟩:=vals1 r;cases ru;exact RI I ha λ t s' I'=>⟨.int kvs.length,H,I',⟨t,rfl⟩,q⟩
theorem PR:j3 X (.builtin "len") (cD X.K Jj):=BF GN λ xs H Q ds d is e q=>by obtain⟨x,rfl,e1⟩:=kP e;obtain⟨l,e2,rfl⟩:=iP e1;obtain rfl:=Ji e2;obtain⟨v,rfl,i⟩:=is.one;obtain⟨a,rfl,ha⟩:=i.qD;exact⟨a,_,rfl,ha,by rw[kvD,ak];exact q _ H (iA.refl H) (.int _)⟩
def RZ:List Dt->g6 Dt:=sJ λ x=>(yw x).map λ i=>.int (if i<0 then -i else i)
@[simp] theorem TU (i:Int):RZ [.int i]=kb (.int (if i<0 then -i else i)):=rfl
theorem Fw:j3 X (.builtin "abs") (cD X.K RZ):=BF HZ λ xs H Q ds d is e q=>by obtain⟨x,rfl,e1⟩:=kP e;obtain⟨l,e2,rfl⟩:=iP e1;obtain rfl:=pY e2;obtain⟨v,rfl,i⟩:=is.one;exact⟨_,by rw[i.int_inv],q _ H (iA.refl H) (.int _)⟩
def lP:List Dt->g6 Dt:=sJ λ x=>(Jh x).map .tup
theorem sN:j3 X (.type "tuple") (cD X.K lP):=BF qY λ xs H Q ds d is e q=>by
 obtain⟨x,rfl,e⟩:=kP e;obtain⟨l,e0,rfl⟩:=iP e;obtain⟨v,rfl,i⟩:=is.one;rcases sM e0 with rfl | rfl
 ·obtain⟨a,ys,rfl,ha,js⟩:=i.iR;exact⟨a,ys,rfl,.inr ⟨ha,q _ H (iA.refl H) (.tup ha js)⟩⟩
 ·obtain⟨a,ys,rfl,ha,js⟩:=i.lst_inv;exact⟨a,ys,rfl,.inl ⟨SqL.of ha,λ p hp=>q _ _ (iA.upd hp) (.tup (SqT.of ir) (js.ext (iA.upd hp)))⟩⟩
def tyD:Dt->g6 String
 | .ty T=>kb T
 | _=>My
theorem L7 {x:Dt}{T:String}(e:tyD x=kb T):x=.ty T:=by
 cases x with
 | ty T=>rw[aF e]
 | _=>cases e
def R0:Dt->String->g6 Dt
 | .int _,T=>if T="int" then kb (.bl V0) else if T="bool"\/T="tuple"\/T="str" then kb (.bl V1) else My
 | .bl _,T=>if T="int"\/T="bool" then kb (.bl V0) else if T="tuple" then kb (.bl V1) else My
 | .tup _,T=>if T="tuple" then kb (.bl V0) else if T="int"\/T="bool" then kb (.bl V1) else My
 | .str _,T=>if T="str" then kb (.bl V0) else if T="int"\/T="tuple" then kb (.bl V1) else My
 | _,_=>My
def PU (x y:Dt):g6 Dt:=(tyD y).bind (R0 x)
@[simp] theorem TV (x:Dt) (T:String):PU x (.ty T)=R0 x T:=rfl
def yA:List Dt->g6 Dt:=yz PU
theorem L8 {p r:Prop}[Decidable p][Decidable r]{d:Dt}{b c:Bool}(e:(if p then kb (Dt.bl b) else if r then kb (.bl c) else My)=kb d):(p/\d=.bl b)\/(r/\d=.bl c):=by
 by_cases hp:p
 ·rw[ae hp]at e;exact .inl ⟨hp,(aF e).symm⟩
 ·by_cases hr:r
  ·rw[ag hp,ae hr]at e;exact .inr ⟨hr,(aF e).symm⟩
  ·rw[ag hp,ag hr]at e;cases e
theorem L9 {x y d:Dt}(e:PU x y=kb d):∃ T,y=.ty T/\((∃ n,x=.int n/\((T="int"/\d=.bl V0)\/((T="bool"\/T="tuple"\/T="str")/\d=.bl V1)))\/(∃ n,x=.bl n/\(((T="int"\/T="bool")/\d=.bl V0)\/(T="tuple"/\d=.bl V1))) \/
  (∃ n,x=.tup n/\((T="tuple"/\d=.bl V0)\/((T="int"\/T="bool")/\d=.bl V1)))\/(∃ n,x=.str n/\((T="str"/\d=.bl V0)\/((T="int"\/T="tuple")/\d=.bl V1)))):=by
 obtain⟨T,e1,e⟩:=hZ e;refine⟨T,L7 e1,?_⟩;cases x with
 | int n=>exact .inl ⟨n,rfl,L8 e⟩
 | bl n=>exact .inr (.inl ⟨n,rfl,L8 e⟩)
 | tup n=>exact .inr (.inr (.inl ⟨n,rfl,L8 e⟩))
 | str n=>exact .inr (.inr (.inr ⟨n,rfl,L8 e⟩))
 | _=>cases e
theorem BL:j3 X (.builtin "isinstance") (cD X.K yA):=by
 intro pins s σ H xs us Q I rs hz;obtain⟨ds,d,is,e,q⟩:=hz;obtain⟨x,y,rfl,e3⟩:=sL e;obtain⟨T,rfl,e1⟩:=L9 e3;clear e e3;obtain⟨v,v',rfl,i1,i2⟩:=is.two;rw[i2.Pr]at rs;have q (b:Bool) (hb:d=.bl b) (s':hE) (I':Inv X pins σ H s'):∃ v H',Inv X pins σ H' s'/\RelV v (.bool b)/\Q v H':=⟨.bl b,H,I',rfl,q _ H (iA.refl H) (by rw[hb];exact .bl _)⟩;obtain⟨u,u',rfl,r1,r2⟩:=vals2 rs;cases r2;rcases e1 with⟨n,rfl,e1⟩ | ⟨n,rfl,e1⟩ | ⟨n,rfl,e1⟩ | ⟨n,rfl,e1⟩
 ·rw[i1.int_inv]at r1
  obtain⟨t,rfl⟩:=r1;rcases e1 with⟨rfl,e2⟩ | ⟨rfl | rfl | rfl,e2⟩
  ·exact IsiPair.int_int (q _ e2 _ I)
  ·exact IsiPair.int_bool (q _ e2 _ (I.tok _))
  ·exact IsiPair.int_tuple (q _ e2 _ (I.tok _))
  ·exact IsiPair.int_str (q _ e2 _ (I.tok _))
 ·rw[i1.kT]at r1
  cases r1;rcases e1 with⟨rfl | rfl,e2⟩ | ⟨rfl,e2⟩
  ·exact IsiPair.bool_int (q _ e2 _ I)
  ·exact IsiPair.bool_bool (q _ e2 _ I)
  ·exact IsiPair.bool_tuple (q _ e2 _ (I.tok _))
 ·obtain⟨a,ys,rfl,ha,js⟩:=i1.iR
  cases r1;obtain⟨its,_,⟨o,ho,hc,_⟩,_⟩:=I.tuple ha;rcases e1 with⟨rfl,e2⟩ | ⟨rfl | rfl,e2⟩
  ·exact IsiPair.tuple_tuple ho hc (q _ e2 _ I)
  ·exact IsiPair.tuple_int ho hc (q _ e2 _ (I.tok _))
  ·exact IsiPair.tuple_bool ho hc (q _ e2 _ (I.tok _))
 ·rw[i1.str_inv]at r1
  obtain⟨t,rfl⟩:=r1;rcases e1 with⟨rfl,e2⟩ | ⟨rfl | rfl,e2⟩
  ·exact IsiPair.str_str (q _ e2 _ I)
  ·exact IsiPair.str_int (q _ e2 _ (I.tok _))
  ·exact IsiPair.str_tuple (q _ e2 _ (I.tok _))
def BM:List Dt->g6 (List Bool)
 | []=>kb []
 | d::ds=>(asB d).bind λ i=>(BM ds).map (i::·)
theorem sO:∀ {ds:List Dt} {l:List Bool},BM ds=kb l->ds=l.map .bl
 | [],l,h=>by cases h;rfl
 | d::ds,l,h=>by obtain⟨i,e1,h⟩:=hZ h;obtain⟨r,e2,h⟩:=iP h;subst h;rw[z_ e1,sO e2];rfl
@[simp] theorem Jk (l:List Bool):BM (l.map .bl)=kb l:=by
 induction l with
 | nil=>rfl
 | cons i r ih=>show(kb i).bind (λ i=>(BM (r.map .bl)).map (i::·))=_;rw[ih];rfl
def BN:Dt->g6 (List Dt)
 | .lst ds=>kb ds
 | _=>My
theorem oq {x:Dt}{l:List Dt}(e:BN x=kb l):x=.lst l:=by
 cases x with
 | lst ds=>rw[aF e]
 | _=>cases e
def Jl:List Dt->g6 Dt:=sJ λ x=>(BN x).bind λ ds=>(BM ds).map λ l=>.bl (l.all id)
theorem L_ {K:g9}{xs:List V}{l:List Bool}(h:Iss K H xs (l.map .bl)):xs=l.map V.bl:=by
 induction l generalizing xs with
 | nil=>cases h;rfl
 | cons b r ih=>cases h with | cons h1 h2=>rw[h1.kT,ih h2];rfl
theorem BO:∀ {l:List Bool} {its:List g_},Vals (l.map V.bl) its->its=l.map Value.bool
 | [],_,.nil=>rfl
 | b::r,_,.cons h t=>by cases h;rw[BO t];rfl
theorem yB (l:List Bool):(V2 l.length).all (λ i=>l.getD i V0)=l.all id:=by
 rw[bj];simp only[dk,ay,id];constructor
 ·intro h x hx;obtain⟨i,hi,rfl⟩:=bX hx;have:=h i hi;rw[aA,aH hi]at this;exact this
 ·intro h i hi;rw[aA,aH hi];exact h _ (eM hi)
theorem GO {prog:Program}{w:World}{A:Around}{E:g0}{l:Addr}{arr:Array g_}{Q:g0}(hl:s.heap.IsList l arr)
  (h:∀ s2:hE,s2={s with heap:=s.heap.push {cls:=.type "list_iterator",data:=.fields #[.ref l,.int 0 0]}}->s2.heap.IsListIter s.heap.objs.size l 0->s2.heap.IsList l arr->l≠s.heap.objs.size->(∀ b∈[s.heap.objs.size,l],b<s2.heap.objs.size)->Q (.ref s.heap.objs.size) s2) :
  wpAny (model prog w) A (pyIter (.ref l)) Q E s:=by
 have hlt:l<s.heap.objs.size:=by obtain⟨_,e,_⟩:=hl;exact aw e
 refine fc hl (h _ rfl ⟨_,aK _ rfl,rfl,rfl⟩ (hl.push _) (aU hlt) λ b hb=>?_);simp only[cn];simp only[aG,cE,or_false]at hb;rcases hb with rfl | rfl
 ·exact eJ _
 ·exact eD hlt
theorem Ma {h':Heap}{o:Obj}(hk:∀ b u,b∉[s.heap.objs.size]->(s.heap.push o).get? b=kb u->h'.get? b=kb u):∀ b u,s.heap.get? b=kb u->h'.get? b=kb u:=λ b u e =>hk b u (λ hm=>absurd (aw e) (by rw[aN.mp hm];exact aX _)) (ai _ e)
theorem NX (hc:X.calm=V0):j3 X (.builtin "all") (cD X.K Jl):=by
 intro pins s σ H xs us Q I rs ⟨ds,d,is,e,q⟩;obtain⟨x,rfl,e2⟩:=kP e;obtain⟨l,e0,e3⟩:=hZ e2;obtain rfl:=oq e0;clear e e2 e0
 ·obtain⟨bs,e1,e⟩:=iP e3
  subst e;have e1:=sO e1;subst e1;obtain⟨v,rfl,i⟩:=is.one;obtain⟨p,ys,rfl,hp,js⟩:=i.lst_inv;obtain⟨u,rfl,ru⟩:=vals1 rs;cases ru;obtain⟨its,rv,pl,_⟩:=I.list (SqL.of hp);rw[L_ js]at rv;have e2:=BO rv;subst e2;refine call_all_walk (GO pl.isList λ s2 es hi hl ne hfp=>?_);refine⟨_,_,_,_,_,_,λ i=>bs.getD i V0,rfl,Walks.list (A:=X.A.in1) (I.ok.hd hc) _ p ne _,⟨hi,hl⟩,?_,λ h' tk hk=>?_⟩
  ·intro i v s' Q' E' hv hq
   have hv:(bs.map Value.bool)[i]?=kb v:=by simpa using hv
   rw[aD]at hv;cases hb:bs[i]? with
   | none=>rw[hb]at hv;cases hv
   | some k =>rw[hb]at hv;cases hv;refine bY ?_;have hq:Q' (bs.getD i V0) s':=hq;rw[aA,hb]at hq;exact hq
  ·subst es
   refine⟨.bl (bs.all id),H,I.kept (t':=tk) (Ma hk),?_,q _ H (iA.refl H) (.bl _)⟩;have:(V2 (bs.map Value.bool).toArray.size).all (λ i=>bs.getD i V0)=bs.all id:=by rw[aC,ak,yB]
   rw[this];rfl
def Ag (srt:List Int->List Int):List Dt->g6 Dt:=sJ λ x=>(BN x).bind λ ds=>if ds.length<64 then (kn ds).map λ l=>.lst ((srt l).map .int) else My
theorem vD:∀ {us:List g_} {ns:List Int},IntsAre us ns->Vals (ns.map V.int) us:=by
 intro us ns h;induction h with
 | nil=>exact .nil
 | cons n t _ ih=>exact .cons ⟨t,rfl⟩ ih
theorem Jm (srt:List Int->List Int)(hp:∀ l,(srt l).Perm l)(hs:∀ l,(srt l).Pairwise (·<=·)):j3 X (.builtin "sorted") (cD X.K (Ag srt)):=by
 intro pins s σ H xs us Q I rs ⟨ds,d,is,e,q⟩;obtain⟨x,rfl,e2⟩:=kP e;obtain⟨l,e0,e3⟩:=hZ e2;obtain rfl:=oq e0;clear e e2 e0
 ·by_cases h64:l.length<64
  ·rw[ae h64]at e3
   obtain⟨bs,e1,e⟩:=iP e3;subst e;have e1:=k_ e1;subst e1;obtain⟨v,rfl,i⟩:=is.one;obtain⟨p,ys,rfl,hp',js⟩:=i.lst_inv;obtain⟨u,rfl,ru⟩:=vals1 rs;cases ru;obtain⟨its,rv,pl,_⟩:=I.list (SqL.of hp');rw[js.ints]at rv;have hlen:its.length=bs.length:=by have:=rv.length;simpa using this.symm
   have h64:bs.length<64:=by simpa using h64
   refine sorted_ints pl.isList (intsAre_of rv) (by lia) λ out ns' ia pe pw=>?_;obtain⟨ep,he⟩:=sortedAll_at s.heap its out;have hns:ns'=srt bs:=by have p2:=pe.trans (hp bs).symm;exact p2.eq_of_pairwise (λ a b _ _ h1 h2=>Int.le_antisymm h1 h2) pw (hs bs)
   subst hns;have hnew:=I.laid (a:=s.heap.objs.size+1) (o:=.lst ((srt bs).map V.int)) (h':=sortedAll s.heap its out) (t':=s.toks) (λ b u e=>sortedAll_old e) (gm _) ⟨by rw[ak,(hp bs).length_eq,sizeLine_eq];lia,out.toList,ep,vD ia,by simpa using he⟩;exact⟨.ref (s.heap.objs.size+1),_,hnew,rfl,q _ _ (iA.upd (I.hok.fresh (gm _))) (.lst ir (Iss.Fj _))⟩
  ·rw[ag h64]at e3;cases e3
end
end L2
namespace L2
open PySem PySem.Spec PyProof.Rows Zp
section
variable {X:Cx}{e a b c:Expr}{es:List Expr}{pos:Pos}{tg:Expr}
theorem PV {scope:Scope}{own fr:List Str}{ix:List Nat}(h1:scope.kind=.function:=by rfl)(h2:(scope.names.all λ x=>x.2 != .local || scope.names.lookup x.1==kb .local)=V0:=by rfl)
  (h3:(scope.names.all λ x=>x.2 != .cell)=V0:=by rfl) (h4:(scope.names.all λ x=>x.2 != .free || (X.env.kindOf x.1==kb .cell || X.env.kindOf x.1==kb .free))=V0:=by rfl)
  (h5:(own.all λ x=>scope.names.lookup x==kb .local)=V0:=by rfl) (h6:(fr.all λ x=>scope.names.lookup x==kb .free)=V0:=by rfl) (h7:ix.map (λ i=>X.N[i]?)=fr.map kb:=by rfl) (h8:(own++fr).Nodup:=by decide +kernel):kq X scope own fr ix:=by
 simp only[dk,Bool.or_eq_true,bne_iff_ne,beq_iff_eq]at h2 h3 h4 h5 h6;refine⟨h1,λ x hx e=>?_,λ x hx=>h3 x hx,λ x hx e=>?_,h5,h6,h7,h8⟩
 ·rcases h2 x hx with z | z
  ·exact absurd e z
  ·exact z
 ·rcases h4 x hx with z | z
  ·exact absurd e z
  ·exact z
def kx:Dt->g6 (List Dt)
 | .tup ds=>kb ds
 | .lst ds=>kb ds
 | _=>My
theorem mQ {g:DE->g6 Dt}(h:PD X e g):PI X tg e (iD X.K (gI kx g)):=λ pins s σ H R I hz1=>by
 obtain⟨δ,ds,S,q,k⟩:=hz1;obtain⟨x,e1,e2⟩:=hZ q;cases x<;>simp[kx]at e2
 ·subst e2;exact Pz h pins s σ H R I ⟨δ,_,S,by unfold gI;rw[e1];rfl,k⟩
 ·subst e2;exact PB h pins s σ H R I ⟨δ,_,S,by unfold gI;rw[e1];rfl,k⟩
def nA (gs:DE->g6 (List Dt)):DE->g6 (List Dt):=λ δ=>(gs δ).bind yu
def Jn (gs:DE->g6 (List Dt)):DE->g6 (List Dt):=λ δ=>(gs δ).bind GH
def GP (t1 t2:Bool)(gs:DE->g6 (List Dt)):DE->g6 (List Dt):=λ δ=>(gs δ).bind (IV t1 t2)
def R1 (g:DE->g6 Dt):DE->g6 Dt:=λ δ=>(g δ).bind NW
theorem qH {gs:DE->g6 (List Dt)}{p:Pos}(hm:X.mg "range"=My)(ha:PDs X [a] gs)(hg:Gl X "range":=by rfl)(hs:starEach [a] X.env=[(V1,eval a X.env)]:=by rfl):PI X tg (.Call (.Name "range" p) [a] [] pos) (iD X.K (nA gs)):=GI hm ha hg hs
theorem Mb {gs:DE->g6 (List Dt)}{p:Pos}(hm:X.mg "range"=My)(ha:PDs X [a,b] gs)(hg:Gl X "range":=by rfl)(hs:starEach [a,b] X.env=[(V1,eval a X.env),(V1,eval b X.env)]:=by rfl)(hs2:starEach [b] X.env=[(V1,eval b X.env)]:=by rfl):PI X tg (.Call (.Name "range" p) [a,b] [] pos) (iD X.K (Jn gs)):=GJ hm ha hg hs hs2
theorem NY {gs:DE->g6 (List Dt)}{elts:List Expr}{kk:Nat}{ps p:Pos}(t1 t2:Bool)(hm:X.mg "zip"=My)(ha:PDs X [a,b] gs)(hg:Gl X "zip":=by rfl)(hs:starEach [a,b] X.env=[(V1,eval a X.env),(V1,eval b X.env)]:=by rfl)(hs2:starEach [b] X.env=[(V1,eval b X.env)]:=by rfl):PI X (.Tuple elts kk ps) (.Call (.Name "zip" p) [a,b] [] pos) (iD X.K (GP t1 t2 gs)):=PJ t1 t2 hm ha hg hs hs2 boot_zip
theorem iW {k:Nat}{A:Around}(hr:kN k A):A.units+2<cLine:=by have:=hr.units;lia
end
abbrev Hg (n:Nat)(N:List Str)(f:List Dt->g6 Dt)(g:DE->g6 RD):Prop:=∀ ds d,ds.length=n->f ds=kb d->∃ r,g (oP N ds)=kb r/\PL r=d
def srt (l:List Int):List Int:=l.mergeSort (λ a b=>decide (a<=b))
theorem BP (l:List Int):(srt l).Perm l:=List.mergeSort_perm ..
theorem DM (l:List Int):(srt l).Pairwise (·<=·):=by have:=List.pairwise_mergeSort (le:=λ a b:Int=>decide (a<=b)) (λ a b c h1 h2=>by simp at *;lia) (λ a b=>by simp;lia) l;exact this.imp λ h=>by simpa using h
def iF (q:Rat):Dt:=.tup [.int q.num,.int q.den]
def dQ (d:Dt):g6 Rat:=(dPr d).bind λ t=>if 0<t.2/\Int.gcd t.1 t.2=1 then kb (V4 t.1 t.2) else My
theorem DN {a b:Int}(h:0<b)(g:Int.gcd a b=1):(V4 a b).num=a/\((V4 a b).den:Int)=b:=by
 obtain⟨n,rfl⟩:∃ n:Nat,b=n:=⟨b.toNat,by lia⟩;have hn:n≠0:=by lia
 rw[dq];have g':a.natAbs.gcd n=1:=by simpa [Int.gcd] using g
 rw[<-Rat.normalize_eq_mkRat hn,Rat.normalize_eq hn];simp[g']
theorem ui {d:Dt}{q:Rat}(h:dQ d=kb q):d=iF q:=by
 obtain⟨t,e,h⟩:=hZ h;rw[Fv e];by_cases hc:0<t.2/\Int.gcd t.1 t.2=1
 ·rw[ae hc]at h;cases h;obtain⟨h1,h2⟩:=DN hc.1 hc.2;unfold iF;rw[h1,h2]
 ·rw[ag hc]at h;cases h
@[simp] theorem rE (q:Rat):dQ (iF q)=kb q:=by
 show(if 0<(q.den:Int)/\Int.gcd q.num q.den=1 then kb (V4 q.num q.den) else My)=kb q;have h1:0<q.den:=q.den_pos;have h2:Int.gcd q.num q.den=1:=by simpa [Int.gcd,Nat.Coprime] using q.reduced
 rw[ae ⟨by lia,h2⟩,dq,fi]
def dQs:List Dt->g6 (List Rat)
 | []=>kb []
 | d::ds=>(dQ d).bind λ i=>(dQs ds).map (i::·)
@[simp] theorem Mc (l:List Rat):dQs (l.map iF)=kb l:=by
 induction l with
 | nil=>rfl
 | cons i r ih=>show(dQ (iF i)).bind (λ i=>(dQs (r.map iF)).map (i::·))=_;rw[ih,rE];rfl
def sm (q:Rat):Prop:=q.num.natAbs<2 ^ 1900/\q.den<2 ^ 1900
instance (q:Rat):Decidable (sm q):=inferInstanceAs (Decidable (_/\_))
abbrev NZ:Dt:=.tup [.int 0,.int 1]
abbrev R3:Dt:=.tup [.int 1,.int 1]
def PX:Dt->g6 Dt
 | .int _=>kb (.bl V0)
 | .bl _=>kb (.bl V1)
 | .tup _=>kb (.bl V1)
 | _=>My
def mR:List Dt->g6 Dt:=sJ PX
@[simp] theorem N3 (n:Int):mR [.int n]=kb (.bl V0):=rfl
def kF (l:List Dt):g6 Dt:=(pr2 l).map λ t=>.int (Int.gcd t.1 t.2)
@[simp] theorem R4 (a b:Int):kF [.int a,.int b]=kb (.int (Int.gcd a b)):=rfl
def Lk:List Dt->g6 Dt
 | [x]=>(dQ x).map λ _=>.bl V0
 | _=>My
def pG:List Dt->g6 Dt:=yz λ x y=>(w9 x).bind λ xs=>(yw y).bind λ n=>(dQs xs).bind λ l=>if l.length<=1000/\(l.length:Int)=n then kb (.bl V0) else My
def jX (l:List Dt):g6 Dt:=(pr2 l).bind λ t=>if 0<t.2/\bd t.2 then kb (iF (V4 t.1 t.2)) else My
@[simp] theorem uj (a b:Int):jX [.int a,.int b]=if 0<b/\bd b then kb (iF (V4 a b)) else My:=rfl
theorem BQ {l:List Dt}{d:Dt}(h:jX l=kb d):∃ a b:Int,l=[.int a,.int b]/\(0<b/\bd b)/\d=iF (V4 a b):=by
 obtain⟨t,e,h⟩:=hZ h;by_cases hc:0<t.2/\bd t.2
 ·rw[ae hc]at h;exact⟨_,_,vP e,hc,(aF h).symm⟩
 ·rw[ag hc]at h;cases h
def PY:List Dt->g6 Dt
 | [x,y]=>(dQ x).bind λ a=>(dQ y).bind λ b=>if sm a/\sm b then kb (iF (a+b)) else My
 | _=>My
def Ah:List Dt->g6 Dt
 | [x,y]=>(dQ x).bind λ a=>(dQ y).bind λ b=>if sm a/\sm b then kb (iF (a*b)) else My
 | _=>My
def Md:Rat->List Rat->g6 Rat
 | a,[]=>kb a
 | a,b::r=>if sm a/\sm b then Md (a+b) r else My
def vQ:List Dt->g6 Dt
 | [x]=>(kx x).bind λ xs=>(dQs xs).bind λ l=>(Md 0 l).map iF
 | _=>My
def w_:DE->g6 RD:=(jk (wV (ju yA (hU (hW 0) (hU (gC (.ty "int")) hX))) (Pt (ju yA (hU (hW 0) (hU (gC (.ty "bool")) hX))))))
abbrev DO:List Str:=["thing"]
def rF:DE->g6 RD:=(i_ (jW 2 (ib 2 kF (hU (hW 0) (hU (hW 1) hX)))) (jk (jE (hU (iG GK (hW 0) (hW 2)) (hU (iG GK (hW 1) (hW 2)) hX)))))
abbrev DP:List Str:=["top","bottom","divisor"]
theorem BR:Hg 1 DO mR w_:=by
 intro ds d hl h;obtain⟨x,rfl,h⟩:=kP h;cases x with
 | int _=>cases h;exact⟨_,rfl,rfl⟩
 | bl _=>cases h;exact⟨_,rfl,rfl⟩
 | tup _=>cases h;exact⟨_,rfl,rfl⟩
 | _=>cases h
theorem oQ {a b:Int}(h:0<b):(V4 a b).num=a / (Int.gcd a b:Int)/\((V4 a b).den:Int)=b / (Int.gcd a b:Int):=by
 obtain⟨n,rfl⟩:∃ n:Nat,b=n:=⟨b.toNat,by lia⟩;have hn:n≠0:=by lia
 rw[dq,<-Rat.normalize_eq_mkRat hn,Rat.normalize_eq hn];simp[Int.gcd]
theorem Ai {a b:Int}(h:0<b):0<(Int.gcd a b:Int)/\(Int.gcd a b:Int)<=b:=by have h1:0<Int.gcd a b:=Int.gcd_pos_of_ne_zero_right _ (by lia);have h2:(Int.gcd a b:Int) ∣ b:=Int.gcd_dvd_right ..;exact⟨by lia,Int.le_of_dvd h h2⟩
theorem N4 {a b:Int}(h:bd b)(h0:0<=a)(h1:a<=b):bd a:=by unfold bd at *;exact cB (by lia) h
theorem BS:Hg 2 DP jX rF:=by
 intro ds d hl h;obtain⟨a,b,rfl,hc,rfl⟩:=BQ h
 ··clear h;obtain⟨h1,h2⟩:=oQ (a:=a) hc.1;obtain⟨h3,h4⟩:=Ai (a:=a) hc.1;have h5:0<(Int.gcd a b:Int)/\bd (Int.gcd a b:Int):=⟨h3,N4 hc.2 (by lia) h4⟩;refine⟨.rt (iF (V4 a b)),?_,rfl⟩;unfold iF;rw[h1,h2];simp[rF,i_,jW,ib,hU,hW,hX,oP,kF,jk,jE,iG,dIC,h5,show b≠0 by lia]
theorem ky {α:Type}{enc:α->Dt}{gg:Dt->DE->g6 DE}{gt:DE->g6 Bool}{ge:DE->g6 Dt}{δc:DE}{δa:α->DE}{p:α->Bool}{enc':α->Dt}:∀ (l:List α),(∀ a∈l,gg (enc a) δc=kb (δa a)/\gt (δa a)=kb (p a)/\(p a=V0->ge (δa a)=kb (enc' a))) ->
  sG gg gt ge δc (l.map enc)=kb ((l.filter p).map enc')
 | [],_=>rfl
 | a::r,h=>by
  obtain⟨h1,h2,h3⟩:=h a av;have ih:=ky r λ b hb=>h b (ar _ hb);rw[au,sG,h1,af,h2,af,ih];cases hp:p a with
  | true=>rw[ae rfl,h3 hp,cW hp];rfl
  | false=>rw[ag ax,cX (by rw[hp];exact ax)]
theorem kz {α:Type}{enc:α->Dt}{gg:Dt->DE->g6 DE}{ge:DE->g6 Dt}{δc:DE}{δa:α->DE}{enc':α->Dt}(l:List α)(h:∀ a∈l,gg (enc a) δc=kb (δa a)/\ge (δa a)=kb (enc' a)) :
  sG gg jL ge δc (l.map enc)=kb (l.map enc'):=by
 have:=ky (gt:=jL) (p:=λ _=>V0) l λ a ha=>⟨(h a ha).1,rfl,λ _=>(h a ha).2⟩;rw[this,List.filter_eq_self.mpr λ _ _=>rfl]
theorem PZ {a b:Int}(ha:a.natAbs<2 ^ 1900)(hb:b.natAbs<2 ^ 1900):bd (a*b):=by
 unfold bd;rw[f7]
 calc a.natAbs*b.natAbs<=2 ^ 1900*2 ^ 1900:=f9 (d8 ha) (d8 hb)
  _=2 ^ 3800:=by rw[<-Nat.pow_add]
  _<2 ^ 4000:=Nat.pow_lt_pow_right (by decide) (by decide)
theorem pH {a:Int}(ha:a.natAbs<2 ^ 1900):bd a:=aB ha (dS (by decide) (by decide))
theorem DQ (a b:Rat):V4 (a.num*b.den+b.num*a.den) ((a.den:Int)*b.den)=a+b:=by have h:=Rat.divInt_add_divInt a.num b.num (d₁:=a.den) (d₂:=b.den) (by have:=a.den_pos;lia) (by have:=b.den_pos;lia);rw[<-h,dq,dq,fi,fi]
set_option tactic.hygienic true in
theorem R5 {x y:Dt}{d:Dt}{f:Rat->Rat->Rat}(h:((dQ x).bind λ a=>(dQ y).bind λ b=>if sm a/\sm b then kb (iF (f a b)) else My)=kb d):∃ a b,x=iF a/\y=iF b/\sm a/\sm b/\d=iF (f a b):=by
 obtain⟨a,e1,h⟩:=hZ h;obtain⟨b,e2,h⟩:=hZ h;split at h
 ·rename_i hc;cases h;exact⟨a,b,ui e1,ui e2,hc.1,hc.2,rfl⟩
 ·cases h
theorem P2 {α:Type}(x y:α):atI [x,y] 0=kb x:=rfl
theorem P4 {α:Type}(x y:α):atI [x,y] 1=kb y:=rfl
end L2
namespace L2
section
variable (δ:DE)(g g' g2:DE->g6 Dt)(r r':DE->g6 RD)(gs:DE->g6 (List Dt))(t t':DE->g6 Bool)(i j:Nat)(f f':Dt->Dt->g6 Dt)(h:List Dt->g6 Dt)(d:Dt)
@[simp] theorem Vl:i_ r r' δ=(r δ).bind λ x=>match x with | .nx δ'=>r' δ' | .rt d=>kb (.rt d):=rfl
@[simp] theorem Vm:jW i g δ=(g δ).map λ d=>.nx (δ.set i (kb d)):=rfl
@[simp] theorem Me:ib i h gs δ=(gs δ).bind λ ds=>if ds.length=i then h ds else My:=rfl
@[simp] theorem Ux:ju h gs δ=(gs δ).bind h:=rfl
@[simp] theorem P5:hU g gs δ=(g δ).bind λ x=>(gs δ).map λ r=>x::r:=rfl
@[simp] theorem Mf:hX δ=kb []:=rfl
@[simp] theorem Vn:hW i δ=(δ[i]?).join:=rfl
@[simp] theorem e_C:gC d δ=kb d:=rfl
@[simp] theorem Vo:iG f g g' δ=(g δ).bind λ x=>(g' δ).bind λ y=>f x y:=rfl
@[simp] theorem Vp:jk g δ=(g δ).map .rt:=rfl
@[simp] theorem Uy:lL g δ=(g δ).map λ _=>.nx δ:=rfl
@[simp] theorem Uz:j5 δ=kb (.nx δ):=rfl
@[simp] theorem TX:mM δ=My:=rfl
@[simp] theorem R6:lJ t r r' δ=(t δ).bind λ k=>if k=V0 then r δ else r' δ:=rfl
@[simp] theorem VR:gIf t g g' δ=(t δ).bind λ k=>if k=V0 then g δ else g' δ:=rfl
@[simp] theorem Vq:pU t t' δ=(t δ).bind λ k=>if k=V0 then kb V0 else t' δ:=rfl
@[simp] theorem UA:IL t t' δ=(t δ).bind λ k=>if k=V0 then t' δ else kb V1:=rfl
@[simp] theorem P6:kr t δ=(t δ).map (!·):=rfl
@[simp] theorem UB:gTr g δ=(g δ).bind IM:=rfl
@[simp] theorem e_B:gB g δ=(g δ).bind asB:=rfl
@[simp] theorem Vr:wV g g' δ=(gB g δ).bind λ k=>if k=V0 then g' δ else kb (.bl V1):=rfl
@[simp] theorem VS:gOr g g' δ=(gB g δ).bind λ k=>if k=V0 then kb (.bl V0) else g' δ:=rfl
@[simp] theorem Vs:Pt g δ=(gB g δ).map λ k=>.bl (!k):=rfl
@[simp] theorem Vt:jE gs δ=(gs δ).bind λ ds=>if ds.length<=1000 then kb (.tup ds) else My:=rfl
@[simp] theorem Vu:zh gs δ=(gs δ).bind λ ds=>if ds.length<=1000 then kb (.lst ds) else My:=rfl
@[simp] theorem TY:uc f f' g g' g2 δ=(g δ).bind λ x=>(g' δ).bind λ y=>(f x y).bind λ z=>(asB z).bind λ k=>if k=V0 then (g2 δ).bind λ w=>f' y w else kb (.bl V1):=rfl
@[simp] theorem Vv (gg:Dt->DE->g6 DE):sH gg g δ=(g δ).bind λ d=>(gg d δ).map .nx:=rfl
@[simp] theorem UC (x y:Dt):kW i j (.tup [x,y]) δ=kb ((δ.set i (kb x)).set j (kb y)):=rfl
@[simp] theorem R7:ggN i d δ=kb (δ.set i (kb d)):=rfl
@[simp] theorem Vw:PK i j gs δ=(gs δ).bind λ ds=>match ds with | [x,y]=>kb (.nx ((δ.set i (kb x)).set j (kb y))) | _=>My:=rfl
@[simp] theorem UD (own:List PySem.Str) (ix:List Nat) (gi:DE->g6 (List Dt)) (gg:Dt->DE->g6 DE):gLC own ix gi gg t g δ=(gi δ).bind λ ds=>if ds.length<=1000 then (sG gg t g (pD own ix δ) ds).map .lst else My:=rfl
@[simp] theorem Vx (gi:DE->g6 (List Dt)) (gg:Dt->DE->g6 DE):DK gi gg r δ=(gi δ).bind λ ds=>pE gg r δ ds:=rfl
@[simp] theorem VT (f:Dt->g6 (List Dt)):gI f g δ=(g δ).bind f:=rfl
@[simp] theorem UE:nA gs δ=(gs δ).bind yu:=rfl
@[simp] theorem P7:Jn gs δ=(gs δ).bind GH:=rfl
@[simp] theorem Vy (t1 t2:Bool):GP t1 t2 gs δ=(gs δ).bind (IV t1 t2):=rfl
@[simp] theorem UG:R1 g δ=(g δ).bind NW:=rfl
@[simp] theorem P8:jL δ=kb V0:=rfl
@[simp] theorem UH (own:List PySem.Str) (ix:List Nat):pD own ix δ=own.map (λ _=>My)++ix.map λ i=>(δ[i]?).getD My:=rfl
@[simp] theorem TZ (N:List PySem.Str) (ds:List Dt):oP N ds=ds.map kb++V3 (N.length-ds.length) My:=rfl
@[simp] theorem UI {α:Type} (x:α):V3 0 x=[]:=rfl
@[simp] theorem UJ {α:Type} (x:α):V3 1 x=[x]:=rfl
@[simp] theorem UK {α:Type} (x:α):V3 2 x=[x,x]:=rfl
@[simp] theorem UL {α:Type} (x:α):V3 3 x=[x,x,x]:=rfl
@[simp] theorem UM {α:Type} (x:α):V3 4 x=[x,x,x,x]:=rfl
@[simp] theorem UN (ds:List Dt):kx (.tup ds)=kb ds:=rfl
@[simp] theorem UO (ds:List Dt):kx (.lst ds)=kb ds:=rfl
@[simp] theorem UP (b:Bool):IM (.bl b)=kb b:=rfl
@[simp] theorem Vz (b:Bool):asB (.bl b)=kb b:=rfl
@[simp] theorem UQ (n:Int):yA [.int n,.ty "int"]=kb (.bl V0):=rfl
@[simp] theorem UR (n:Int):yA [.int n,.ty "bool"]=kb (.bl V1):=rfl
@[simp] theorem US (n:List Dt):yA [.tup n,.ty "tuple"]=kb (.bl V0):=rfl
@[simp] theorem UT (n:List Dt):qV [.tup n]=kb (.int n.length):=rfl
@[simp] theorem UU (n:List Dt):qV [.lst n]=kb (.int n.length):=rfl
@[simp] theorem UW (n:List (Int×Int)):Jj [.dct n]=kb (.int n.length):=rfl
@[simp] theorem R8 (n:List Dt):lP [.lst n]=kb (.tup n):=rfl
@[simp] theorem R9 (n:List Dt):lP [.tup n]=kb (.tup n):=rfl
@[simp] theorem VU (g:Int->Int->Int) (a b:Int):dI g (.int a) (.int b)=kb (.int (g a b)):=rfl
@[simp] theorem VA (g:Int->Int->Bool) (a b:Int):dIB g (.int a) (.int b)=kb (.bl (g a b)):=rfl
@[simp] theorem VW (a b:Int):lK (.int a) (.int b)=kb (.bl (!(a==b))):=rfl
@[simp] theorem VX (a b:Int):kX (.int a) (.int b)=kb (.bl (a==b)):=rfl
@[simp] theorem VB (a b:Bool):lK (.bl a) (.bl b)=kb (.bl (!(a==b))):=rfl
@[simp] theorem VC (a b:Bool):kX (.bl a) (.bl b)=kb (.bl (a==b)):=rfl
@[simp] theorem UX (a b:Bool):Jb (.bl a) (.bl b)=kb (.bl (a != b)):=rfl
@[simp] theorem VD (a b:Bool):Uv (.bl a) (.bl b)=kb (.bl (a==b)):=rfl
@[simp] theorem VE (ds:List Dt) (i:Int):dIx (.tup ds) (.int i)=atI ds i:=rfl
@[simp] theorem VF (ds:List Dt) (i:Int):dIx (.lst ds) (.int i)=atI ds i:=rfl
@[simp] theorem VG (x y:Dt):atI [x,y] 0=kb x:=rfl
@[simp] theorem VH (x y:Dt):atI [x,y] 1=kb y:=rfl
@[simp] theorem N5 (l:List Bool):Jl [.lst (l.map .bl)]=kb (.bl (l.all id)):=by show(BM (l.map .bl)).map _=_;rw[Jk];rfl
end
open PySem PySem.Spec PyProof.Rows Zp PySem.SeqAt
section
variable {X:Cx}{e a b c:Expr}{es:List Expr}{pos:Pos}{pins:hJ}{σ:St}{H:Hp}{s:hE}
def ou (kvs:List (Int×Int))(k:Int):g6 Int:=(kvs.find? λ q=>decide (q.1=k)).map (·.2)
def P9:Dt->Dt->g6 Dt
 | .dct kvs,.int k=>(ou kvs k).map .int
 | _,_=>My
theorem BU (kvs:List (Int×Int))(k:Int):mK (kvD kvs) (Sum.inl k)=(ou kvs k).map V.int:=by unfold mK kvD ou;rw[List.find?_map];simp[dU]
theorem R_ {ga gb:DE->g6 Dt}(hu:X.A.units+1<cLine)(ha:PD X a ga)(hb:PD X b gb)(hs:Pd b:=by exact λ _ _=>rfl):PD X (.Subscript a b pos) (iG P9 ga gb) :=
 (E5 hu ha hb hs).of λ σ H Q ⟨δ,d,S,e,q⟩=>by
  obtain⟨x,y,e1,e2,e3⟩:=sE e;refine⟨δ,x,S,e1,λ v H1 s1 i1=>⟨δ,y,S.ext s1,e2,λ w H2 s2 i2=>?_⟩⟩;match x,y,e3 with
  | .dct kvs,.int k,e3 =>obtain⟨r,e4,rfl⟩:=iP (show(ou kvs k).map _=_ from e3);obtain⟨p,rfl,hp⟩:=(i1.ext s2).qD;have:=i2.int_inv;subst this;refine⟨p,.int r,rfl,?_,q _ H2 (s1.trans s2) (.int r)⟩;have g:sj H2 p (kV (Sum.inl k)) (mK (kvD kvs) (Sum.inl k)):=.inl ⟨kvD kvs,Sum.inl k,hp,rfl,rfl⟩;rw[BU,e4]at g;exact g
def qW (d:Dt)(es:List Dt):Bool:=es.any λ e=>dEq e d
def dIn (neg:Bool):Dt->Dt->g6 Dt
 | d,.tup es=>if (es.all λ e=>sh2 e d)=V0 then kb (.bl (if neg then !qW d es else qW d es)) else My
 | d,.lst es=>if (es.all λ e=>sh2 e d)=V0 then kb (.bl (if neg then !qW d es else qW d es)) else My
 | _,_=>My
open Classical in
def isIt (its:List g_)(es:List Dt)(d:Dt)(w:g_):Bool:=decide (∃ (j:Nat) (e:Dt),its[j]?=kb w/\es[j]?=kb e/\dEq e d=V0)
theorem sP {its:List g_}{es:List Dt}{d:Dt}{w:g_}:isIt its es d w=V0↔∃ (j:Nat) (e:Dt),its[j]?=kb w/\es[j]?=kb e/\dEq e d=V0:=by unfold isIt;exact @decide_eq_true_iff _ (Classical.propDecidable _)
theorem sQ {xs:List V}{its:List g_}{es:List Dt}{d:Dt}(js:Iss X.K H xs es)(r:Vals xs its):its.any (isIt its es d)=qW d es:=by
 rw[bj,fB];unfold qW;rw[fB];constructor
 ·rintro⟨w,_,h⟩;obtain⟨j,e,h1,h2,h3⟩:=sP.mp h;exact⟨e,bc h2,h3⟩
 ·rintro⟨e,he,h⟩
  obtain⟨j,hj,ej⟩:=bX he;have ej:es[j]?=kb e:=by rw[aH hj,ej]
  obtain⟨v,hv,iv⟩:=js.get ej;obtain⟨u,hu,_⟩:=r.get hv;exact⟨u,bc hu,sP.mpr ⟨j,e,hu,ej,h⟩⟩
theorem vR {A:Around}(I:Inv X pins σ H s)(hu:A.units<cLine){xs:List V}{its:List g_}{es:List Dt}{d:Dt}{x:V}{v:g_}(js:Iss X.K H xs es)(r:Vals xs its)(i:Is X.K H x d)(rx:RelV x v)
  (sh:(es.all λ e=>sh2 e d)=V0) (w:g_) (hw:w∈its):EqAt A s w v (isIt its es d w):=by
 have at_:∀ j e,its[j]?=kb w->es[j]?=kb e->EqAt A s w v (dEq e d):=λ j e h1 h2=>by obtain⟨y,u,hu',ru,iy⟩:=js.vals I r h2;rw[h1]at hu';cases hu';exact Fu I hu (dk.mp sh e (bc h2)) iy i ru rx
 cases hq:isIt its es d w with
 | true =>obtain⟨j,e,h1,h2,h3⟩:=sP.mp hq;have:=at_ j e h1 h2;rw[h3]at this;exact this
 | false =>
  obtain⟨j,hj,ej⟩:=bX hw;have hl:its.length=es.length:=by rw[<-r.length,js.length]
  have h1:its[j]?=kb w:=by rw[aH hj,ej]
  have h2:es[j]?=kb es[j]:=aH (by lia);have:=at_ j _ h1 h2;have n:¬ dEq es[j] d=V0:=λ z=>by rw[sP.mpr ⟨j,_,h1,h2,z⟩]at hq;cases hq
  rw[Bool.not_eq_true]at n;rw[n]at this;exact this
set_option tactic.hygienic true in
theorem VY (hu:X.A.units+2<cLine):OpR X (compareOp .In) (rD X.K (dIn V1)):=by
 intro pins s σ H x y v u Q I rx ry ⟨d,d',r,i,i',e,q⟩;have hu1:X.A.in1.units<cLine:=by have:X.A.in1.units=X.A.units+1:=rfl;lia
 cases d'<;>try (cases e;done)
 ·rename_i es
  have e:(if (es.all λ e=>sh2 e d)=V0 then kb (Dt.bl (qW d es)) else My)=kb r:=e;split at e
  ·rename_i sh;cases e;obtain⟨p,xs,rfl,hp,js⟩:=i'.iR;cases ry;obtain⟨its,rv,pl,hz⟩:=I.tuple hp;refine in_tupleAt (isIt its es d) pl (λ w hw=>vR I hu1 js rv i rx sh w (by simpa using hw)) ⟨.bl _,H,I,rfl,?_⟩;rw[fG,sQ js rv];exact q _ H (iA.refl H) (.bl _)
  ·cases e
 ·rename_i es
  have e:(if (es.all λ e=>sh2 e d)=V0 then kb (Dt.bl (qW d es)) else My)=kb r:=e;split at e
  ·rename_i sh;cases e;obtain⟨p,xs,rfl,hp,js⟩:=i'.lst_inv;cases ry;obtain⟨its,rv,pl,hz⟩:=I.list (SqL.of hp);refine in_listAt (isIt its es d) pl.isList (λ w hw=>vR I hu1 js rv i rx sh w (by simpa using hw)) ⟨.bl _,H,I,rfl,?_⟩;rw[fG,sQ js rv];exact q _ H (iA.refl H) (.bl _)
  ·cases e
set_option tactic.hygienic true in
theorem sR (hu:X.A.units+2<cLine):OpR X (compareOp .NotIn) (rD X.K (dIn V0)):=by
 intro pins s σ H x y v u Q I rx ry ⟨d,d',r,i,i',e,q⟩;have hu1:X.A.in1.units<cLine:=by have:X.A.in1.units=X.A.units+1:=rfl;lia
 cases d'<;>try (cases e;done)
 ·rename_i es
  have e:(if (es.all λ e=>sh2 e d)=V0 then kb (Dt.bl (!qW d es)) else My)=kb r:=e;split at e
  ·rename_i sh;cases e;obtain⟨p,xs,rfl,hp,js⟩:=i'.iR;cases ry;obtain⟨its,rv,pl,hz⟩:=I.tuple hp;refine notIn_tupleAt (isIt its es d) pl (λ w hw=>vR I hu1 js rv i rx sh w (by simpa using hw)) ⟨.bl _,H,I,rfl,?_⟩;rw[fG,sQ js rv];exact q _ H (iA.refl H) (.bl _)
  ·cases e
 ·rename_i es
  have e:(if (es.all λ e=>sh2 e d)=V0 then kb (Dt.bl (!qW d es)) else My)=kb r:=e;split at e
  ·rename_i sh;cases e;obtain⟨p,xs,rfl,hp,js⟩:=i'.lst_inv;cases ry;obtain⟨its,rv,pl,hz⟩:=I.list (SqL.of hp);refine notIn_listAt (isIt its es d) pl.isList (λ w hw=>vR I hu1 js rv i rx sh w (by simpa using hw)) ⟨.bl _,H,I,rfl,?_⟩;rw[fG,sQ js rv];exact q _ H (iA.refl H) (.bl _)
  ·cases e
def uk:Dt->g6 Dt
 | .int i=>kb (.int (-i))
 | _=>My
def gUn (f:Dt->g6 Dt)(g:DE->g6 Dt):DE->g6 Dt:=λ δ=>(g δ).bind f
theorem N6 {ga:DE->g6 Dt}(ha:PD X a ga):PD X (.UnaryOp .USub a pos) (gUn uk ga):=(Rx O1 ha).of λ σ H Q ⟨δ,d,S,e,q⟩=>by
 obtain⟨x,e1,e2⟩:=hZ e;match x,e2 with
 | .int i,e2 =>cases e2;exact⟨δ,_,S,e1,λ v H1 s1 i1=>⟨i,i1.int_inv,q _ H1 s1 (.int _)⟩⟩
end
open PySem.W Tb
section
variable {X:Cx}{pins:hJ}{σ:St}{H:Hp}{s:hE}
end
section
variable {X:Cx}{pins:hJ}{σ:St}{H:Hp}{s:hE}
end
end L2
namespace L2
open PySem PySem.Spec PyProof.Rows Zp
section
variable {X:Cx}{a b e:Expr}{es:List Expr}{pos:Pos}
def Sa:Dt->g6 Str
 | .str z=>kb z
 | _=>My
theorem Jo {x:Dt}{z:Str}(e:Sa x=kb z):x=.str z:=by
 cases x with
 | str y=>rw[aF e]
 | _=>cases e
end
section
variable {X:Cx}{a b e o:Expr}{es:List Expr}{pos:Pos}
end
section
variable {X:Cx}{tg a b c:Expr}{pos:Pos}
end
section
variable {X:Cx}{a b e o:Expr}{es:List Expr}{pos:Pos}
def u_:List Dt->g6 (List Str)
 | []=>kb []
 | d::ds=>(Sa d).bind λ z=>(u_ ds).map (z::·)
theorem zk {ds:List Dt}:∀ {l:List Str},u_ ds=kb l->ds=l.map .str:=by
 induction ds with
 | nil=>intro l h;cases h;rfl
 | cons d ds ih =>intro l h;obtain⟨z,e1,h1⟩:=hZ h;obtain⟨r,e2,h2⟩:=iP h1;subst h2;rw[Jo e1,ih e2];rfl
@[simp] theorem Rq (l:List Str):u_ (l.map .str)=kb l:=by
 induction l with
 | nil=>rfl
 | cons i r ih=>show(kb i).bind (λ i=>(u_ (r.map .str)).map (i::·))=_;rw[ih];rfl
def Jp (x y:Dt):g6 Dt:=(w9 x).bind λ ds=>(w9 y).bind λ es=>if ds≠[]/\es≠[]/\ds.length+es.length<=1000 then kb (.tup (ds++es)) else My
theorem Iss.ne {K:g9}{H:Hp}{vs:List V}{ds:List Dt}(h:Iss K H vs ds)(n:ds≠[]):vs≠[]:=by intro e;subst e;cases h;exact n rfl
theorem P_:OpR X (binaryOp .Add) (rD X.K Jp):=opD Lz λ x y H Q dx dy d i1 i2 e q=>by
 obtain⟨ds,e1,f1⟩:=hZ e;obtain⟨es,e2,f2⟩:=hZ f1;obtain rfl:=mP e1;obtain rfl:=mP e2;clear e f1 e1 e2;by_cases hc:ds≠[]/\es≠[]/\ds.length+es.length<=1000
 ·rw[ae hc]at f2;cases f2;obtain⟨a,xs,rfl,ha,is⟩:=i1.iR;obtain⟨b,ys,rfl,hb,js⟩:=i2.iR;exact⟨a,b,xs,ys,rfl,rfl,ha,hb,is.ne hc.1,qE (by rw[is.length,js.length];exact hc.2.2),λ z=>absurd z (js.ne hc.2.1),λ _ p hp=>q _ _ (iA.upd hp) (.tup (SqT.of ir) ((is.append js).ext (iA.upd hp)))⟩
 ·rw[ag hc]at f2;cases f2
def vS:List Dt->g6 Dt:=sJ λ x=>(Jh x).map .lst
theorem Jq:j3 X (.type "list") (cD X.K vS):=BF zW λ xs H Q ds d is e q=>by
 obtain⟨x,rfl,e1⟩:=kP e;obtain⟨l,e0,rfl⟩:=iP e1;obtain⟨v,rfl,i⟩:=is.one;rcases sM e0 with rfl | rfl
 ·obtain⟨a,ys,rfl,ha,js⟩:=i.iR;exact⟨a,ys,rfl,.inr ha,λ p hp=>q _ _ (iA.upd hp) (.lst ir (js.ext (iA.upd hp)))⟩
 ·obtain⟨a,ys,rfl,ha,js⟩:=i.lst_inv;exact⟨a,ys,rfl,.inl (SqL.of ha),λ p hp=>q _ _ (iA.upd hp) (.lst ir (js.ext (iA.upd hp)))⟩
end
abbrev h_ (k:Nat):Dt:=.int k
def iq (p:Nat×Nat):Dt:=.tup [h_ p.1,h_ p.2]
abbrev jq (l:hG):Dt:=.tup (l.map iq)
def ip (w:Nat×hG):Dt:=.tup [h_ w.1,jq w.2]
def ja:Dt->g6 Nat
 | .int i=>if 0<=i then kb i.toNat else My
 | _=>My
theorem jd {d:Dt}{k:Nat}(h:ja d=kb k):d=h_ k:=by cases d<;>simp[ja]at h;rw[<-h.2,h_];congr 1;lia
@[simp] theorem iY (k:Nat):ja (h_ k)=kb k:=by simp[ja,h_]
def Mg {α:Type}(F:Dt->Dt->g6 α):List Dt->g6 α
 | [x,y]=>F x y
 | _=>My
theorem xa {α:Type}{F:Dt->Dt->g6 α}{l:List Dt}{d:α}(e:Mg F l=kb d):∃ x y,l=[x,y]/\F x y=kb d:=by
 cases l with
 | nil=>cases e
 | cons x r=>cases r with
  | nil=>cases e
  | cons y z=>cases z with
   | nil=>exact⟨x,y,rfl,e⟩
   | cons _ _=>cases e
def dNP (d:Dt):g6 (Nat×Nat):=(w9 d).bind (Mg λ x y=>(ja x).bind λ a=>(ja y).map λ b=>(a,b))
theorem oR {d:Dt}{p:Nat×Nat}(h:dNP d=kb p):d=iq p:=by obtain⟨l,e0,h⟩:=hZ h;obtain⟨x,y,rfl,h⟩:=xa h;obtain⟨a,e1,h⟩:=hZ h;obtain⟨b,e2,h⟩:=iP h;subst h;rw[mP e0,jd e1,jd e2];rfl
@[simp] theorem oU (p:Nat×Nat):dNP (iq p)=kb p:=by show(ja (h_ p.1)).bind (λ a=>(ja (h_ p.2)).map λ b=>(a,b))=_;rw[iY,iY];rfl
def GQ:List Dt->g6 hG
 | []=>kb []
 | d::ds=>(dNP d).bind λ i=>(GQ ds).map (i::·)
theorem sU:∀ {ds:List Dt} {l:hG},GQ ds=kb l->ds=l.map iq
 | [],l,h=>by cases h;rfl
 | d::ds,l,h=>by obtain⟨i,e1,h⟩:=hZ h;obtain⟨r,e2,h⟩:=iP h;subst h;rw[oR e1,sU e2];rfl
@[simp] theorem xb (l:hG):GQ (l.map iq)=kb l:=by
 induction l with
 | nil=>rfl
 | cons i r ih=>show(dNP (iq i)).bind (λ i=>(GQ (r.map iq)).map (i::·))=_;rw[ih,oU];rfl
def dTs (d:Dt):g6 hG:=(Jh d).bind GQ
def dTt (d:Dt):g6 hG:=(w9 d).bind GQ
theorem sV {d:Dt}{l:hG}(h:dTt d=kb l):d=jq l:=by obtain⟨ds,e,h⟩:=hZ h;rw[mP e,sU h]
@[simp] theorem sW (l:hG):dTt (jq l)=kb l:=xb l
theorem Mh {d:Dt}{l:hG}(h:dTs d=kb l):d=jq l\/d=.lst (l.map iq):=by
 obtain⟨ds,e,h⟩:=hZ h;rcases sM e with rfl | rfl
 ·exact .inl (by rw[sU h])
 ·exact .inr (by rw[sU h])
@[simp] theorem T3 (l:hG):dTs (.lst (l.map iq))=kb l:=xb l
@[simp] theorem Aj (l:hG):dTs (jq l)=kb l:=xb l
def nbI (l:hG)(p:Nat):List Int:=srt ((l.filter λ t=>t.2==p).map (λ t=>(t.1:Int))++(l.filter λ t=>t.1==p).map λ t=>(t.2:Int))
def nb (l:hG)(p:Nat):List Nat:=(nbI l p).map Int.toNat
theorem BV (l:hG)(p:Nat):(nbI l p).Perm ((l.filter λ t=>t.2==p).map (λ t=>(t.1:Int))++(l.filter λ t=>t.1==p).map λ t=>(t.2:Int)):=BP _
theorem sX (l:hG)(p:Nat):(nb l p).Perm ((l.filter λ t=>t.2==p).map (·.1)++(l.filter λ t=>t.1==p).map (·.2)):=by have:=(BV l p).map Int.toNat;unfold nb;simpa [bp,dU] using this
theorem Qa (l:hG)(p:Nat):nbI l p=(nb l p).map λ(k:Nat)=>(k:Int):=by
 unfold nb;rw[aR];conv=>lhs;rw[<-fM (nbI l p)]
 refine aL λ x hx=>?_;have h:=(BV l p).mem_iff.mp hx;have:0<=x:=by rcases bh.mp h with h | h<;>(obtain⟨t,_,rfl⟩:=aE.mp h;lia)
 simp;lia
def rb (fd:hG)(k:Nat):Bool:=fd.any λ q=>q.1==k
def look (fd:hG)(k:Nat):Nat:=(fd.lookup k).getD 0
def ji (place:Nat)(st:hG×List Nat)(near:Nat):hG×List Nat:=if rb st.1 near=V0 then st else (st.1++[(near,look st.1 place+1)],st.2++[near])
def visit (l:hG)(st:hG×List Nat)(place:Nat):hG×List Nat:=(nb l place).foldl (ji place) st
def j9 (l:hG)(fd:hG)(iQ:List Nat):hG×List Nat:=iQ.foldl (visit l) (fd,[])
def nB (l:hG):Nat->hG->List Nat->hG
 | 0,fd,_=>fd
 | _+1,fd,[]=>fd
 | k+1,fd,e::es=>nB l k (j9 l fd (e::es)).1 (j9 l fd (e::es)).2
def bfs (l:hG)(s:Nat):hG:=nB l (2*l.length+2) [(s,0)] [s]
def kd (fd:hG):List (Int×Int):=fd.map λ q=>((q.1:Int),(q.2:Int))
def mS (p q:Nat×Nat):Bool:=HT.lexLt [(p.1:Int),(p.2:Int)] [(q.1:Int),(q.2:Int)]
def rise (l:hG):Bool:=(l.zip l.tail).all λ pq=>mS pq.1 pq.2
structure Good (w:Nat×hG):Prop where
 two:2<=w.1
 kg:w.1<=8
 ok:∀ p∈w.2,p.1<p.2/\p.2<w.1
 rise:rise w.2=V0
 all:(bfs w.2 0).length=w.1
 len:w.2.length<=30
 ne:w.2≠[]
def BW (w:Nat×hG):Bool:=decide (2<=w.1/\w.1<=8)&&(w.2.all λ p=>decide (p.1<p.2/\p.2<w.1))&&rise w.2&&decide ((bfs w.2 0).length=w.1)&&decide (w.2.length<=30)&&!w.2.isEmpty
theorem zl (w:Nat×hG):BW w=V0↔Good w:=by
 unfold BW;simp only[bJ,decide_eq_true_eq,dk,gz,List.isEmpty_eq_false_iff];constructor
 ·rintro⟨⟨⟨⟨⟨h1,h2⟩,h3⟩,h4⟩,h5⟩,h6⟩;exact⟨h1.1,h1.2,h2,h3,h4,h5,h6⟩
 ·rintro⟨h1,h1',h2,h3,h4,h5,h6⟩;exact⟨⟨⟨⟨⟨⟨h1,h1'⟩,h2⟩,h3⟩,h4⟩,h5⟩,h6⟩
def dW (d:Dt):g6 (Nat×hG):=(w9 d).bind (Mg λ x y=>(ja x).bind λ n=>(dTt y).bind λ l=>if BW (n,l)=V0 then kb (n,l) else My)
theorem kf {d:Dt}{w:Nat×hG}(h:dW d=kb w):d=ip w/\Good w:=by
 obtain⟨l,e0,h⟩:=hZ h;obtain⟨x,y,rfl,h⟩:=xa h;obtain⟨a,e1,h⟩:=hZ h;obtain⟨b,e2,h⟩:=hZ h;by_cases hg:BW (a,b)=V0
 ·rw[ae hg]at h;cases h;rw[mP e0,jd e1,sV e2];exact⟨rfl,(zl _).mp hg⟩
 ·rw[ag hg]at h;cases h
theorem j7 {w:Nat×hG}(h:Good w):dW (ip w)=kb w:=by show(ja (h_ w.1)).bind (λ n=>(dTt (jq w.2)).bind λ l=>if BW (n,l)=V0 then kb (n,l) else My)=_;rw[iY,sW,af,af,ae ((zl _).mpr h)]
def lQ (l:List Dt):g6 Dt:=(pr2 l).map λ t=>.bl (decide (0<=t.2)&&decide (t.2<t.1))
@[simp] theorem Qb (n p:Int):lQ [.int n,.int p]=kb (.bl (decide (0<=p)&&decide (p<n))):=rfl
def kQ:List Dt->g6 Dt:=yz λ x y=>(yw x).bind λ n=>(dPr y).map λ t=>.bl ((decide (0<=t.1)&&decide (t.1<n))&&((decide (0<=t.2)&&decide (t.2<n))&&decide (t.1<t.2)))
@[simp] theorem Jr (n a b:Int):kQ [.int n,.tup [.int a,.int b]]=kb (.bl ((decide (0<=a)&&decide (a<n))&&((decide (0<=b)&&decide (b<n))&&decide (a<b)))):=rfl
def N7:List Dt->g6 Dt
 | [x]=>(dTt x).bind λ l=>if l.length<=1000/\l≠[] then kb (.bl (rise l)) else My
 | _=>My
def lg:List Dt->g6 Dt
 | [x,y]=>(dTs x).bind λ l=>(ja y).bind λ p=>if l.length<=30 then kb (.tup ((nb l p).map h_)) else My
 | _=>My
def nC:List Dt->g6 Dt
 | [x,y]=>(dTs x).bind λ l=>(ja y).bind λ p=>if l.length<=30 then kb (.dct (kd (bfs l p))) else My
 | _=>My
def qX (w:Nat×hG):List Nat:=(V2 w.1).map λ p=>(nb w.2 p).length
def qI:List Dt->g6 Dt
 | [x]=>(dW x).map λ w=>.lst ((qX w).map h_)
 | _=>My
def sY:List Dt->g6 Dt
 | [x]=>(dW x).map λ _=>.bl V0
 | _=>My
def jF:List Dt->g6 Dt
 | [x]=>(dW x).map λ _=>.non
 | _=>My
def jG:List Dt->g6 Dt
 | [x,y]=>(dW x).bind λ w=>(ja y).bind λ p=>if p<w.1 then kb .non else My
 | _=>My
def yC (l:List Dt):g6 Dt:=(pr2 l).bind λ t=>if 0<=t.1/\t.1<=t.2 then kb .non else My
@[simp] theorem Qc (k m:Int):yC [.int k,.int m]=if 0<=k/\k<=m then kb .non else My:=rfl
def rG:DE->g6 RD:=(jk (wV (ib 1 mR (hU (hW 1) hX)) (uc (dIB λ i j=>decide (i<=j)) (dIB λ i j=>decide (i<j)) (gC (.int 0)) (hW 1) (hW 0))))
abbrev DR:List Str:=["many","thing"]
def xc:DE->g6 RD:=(i_ (lJ (pU (kr (gTr (ju yA (hU (hW 1) (hU (gC (.ty "tuple")) hX))))) (gB (iG lK (ju qV (hU (hW 1) hX)) (gC (.int 2))))) (jk (gC (.bl V1))) j5) (i_ (sH (kW 2 3) (hW 1)) (jk (wV (ib 2 lQ (hU (hW 0) (hU (hW 2) hX))) (wV (ib 2 lQ (hU (hW 0) (hU (hW 3) hX))) (iG (dIB λ i j=>decide (i<j)) (hW 2) (hW 3)))))))
abbrev Js:List Str:=["many","thing","a","b"]
abbrev BX:List Str:=["things"]
def qJ:DE->g6 RD:=(i_ (jW 2 (gLC ["a","b"] [1] (gI kx (hW 0)) (kW 0 1) (gB (iG kX (hW 1) (hW 2))) (hW 0))) (i_ (jW 3 (gLC ["a","b"] [1] (gI kx (hW 0)) (kW 0 1) (gB (iG kX (hW 0) (hW 2))) (hW 1))) (jk (ju lP (hU (ju (Ag srt) (hU (iG yy (hW 2) (hW 3)) hX)) hX)))))
abbrev GR:List Str:=["ties","place","lesser","greater"]
def um:DE->g6 RD:=(i_ (sH (kW 1 2) (hW 0)) (jk (gLC ["place"] [2] (nA (hU (hW 1) hX)) (ggN 0) jL (ju qV (hU (ib 2 lg (hU (hW 1) (hU (hW 0) hX))) hX)))))
abbrev GS:List Str:=["web","many","ties"]
abbrev Jt:List Str:=["thing","many","ties"]
def pZ:DE->g6 RD:=(lJ (kr (gTr (ib 1 sY (hU (hW 0) hX)))) mM j5)
abbrev BY:List Str:=["thing"]
def nO:DE->g6 RD:=(lJ (kr (gTr (ib 2 lQ (hU (iG dIx (hW 0) (gC (.int 0))) (hU (hW 1) hX))))) mM j5)
abbrev yD:List Str:=["web","thing"]
theorem BZ:Hg 2 DR lQ rG:=by
 intro ds d hl h;obtain⟨⟨n,p⟩,e1,e2⟩:=iP h;obtain rfl:=vP e1
 ·cases e2;clear h e1;refine⟨.rt (.bl (decide (0<=p)&&decide (p<n))),?_,rfl⟩;simp[rG];by_cases h:0<=p<;>simp[h]
theorem GU:Hg 2 Js kQ xc:=by
 intro ds d hl h;obtain⟨x,y,rfl,h1⟩:=sL h;obtain⟨n,e1,h2⟩:=hZ h1;obtain⟨⟨a,b⟩,e2,h3⟩:=iP h2;obtain rfl:=pY e1;obtain rfl:=Fv e2
 ·cases h3;clear h h1 h2 e1 e2;refine⟨.rt (.bl ((decide (0<=a)&&decide (a<n))&&((decide (0<=b)&&decide (b<n))&&decide (a<b)))),?_,rfl⟩;simp[xc];by_cases h:0<=a/\a<n<;>by_cases h':0<=b/\b<n<;>simp[h,h']
theorem Mi (l:hG):((l.map iq).zip (l.tail.map iq)).map (λ(p,q)=>Dt.tup [p,q])=(l.zip l.tail).map λ pq=>Dt.tup [iq pq.1,iq pq.2]:=by rw[List.zip_map,aR];rfl
theorem mT (a b:Nat):((a:Int)==(b:Int))=(a==b):=by rw[bj];simp;lia
set_option tactic.hygienic true in
theorem DS:Hg 2 GR lg qJ:=by
 intro ds d hl h;match ds,h with
 | [x,y],h =>
  obtain⟨l,e1,h⟩:=hZ (show(dTs x).bind _=_ from h);obtain⟨p,e2,h⟩:=hZ h;split at h
  ·rename_i hc
   cases h;rw[jd e2];refine⟨.rt (.tup ((nb l p).map h_)),?_,rfl⟩;have lc1:=ky (enc:=iq) (gg:=kW 0 1) (gt:=gB (iG kX (hW 1) (hW 2))) (ge:=hW 0) (δc:=[My,My,kb (h_ p)]) (δa:=λ t=>[kb (h_ t.1),kb (h_ t.2),kb (h_ p)]) (p:=λ t=>t.2==p) (enc':=λ t=>h_ t.1) l λ a _=>⟨rfl,by simp[h_,mT],λ _=>rfl⟩
   have lc2:=ky (enc:=iq) (gg:=kW 0 1) (gt:=gB (iG kX (hW 0) (hW 2))) (ge:=hW 1) (δc:=[My,My,kb (h_ p)]) (δa:=λ t=>[kb (h_ t.1),kb (h_ t.2),kb (h_ p)]) (p:=λ t=>t.1==p) (enc':=λ t=>h_ t.2) l λ a _=>⟨rfl,by simp[h_,mT],λ _=>rfl⟩
   have hlen:l.length<=1000:=by lia
   have f1:=dF (λ t:Nat×Nat=>t.2==p) l;have f2:=dF (λ t:Nat×Nat=>t.1==p) l;have e5:((l.filter λ t=>t.2==p).map (λ t=>h_ t.1))++((l.filter λ t=>t.1==p).map λ t=>h_ t.2)=((l.filter λ t=>t.2==p).map (λ t=>(t.1:Int))++(l.filter λ t=>t.1==p).map λ t=>(t.2:Int)).map Dt.int:=by simp[h_,dU]
   have e6:yy (.lst ((l.filter λ t=>t.2==p).map (λ t=>h_ t.1))) (.lst ((l.filter λ t=>t.1==p).map λ t=>h_ t.2))=kb (.lst (((l.filter λ t=>t.2==p).map (λ t=>(t.1:Int))++(l.filter λ t=>t.1==p).map λ t=>(t.2:Int)).map Dt.int)):=by show(if _ then kb (Dt.lst _) else My)=_;rw[ae (by simp only[ak];lia),e5]
   have e7:Ag srt [.lst (((l.filter λ t=>t.2==p).map (λ t=>(t.1:Int))++(l.filter λ t=>t.1==p).map λ t=>(t.2:Int)).map Dt.int)]=kb (.lst ((nb l p).map h_)):=by show(if _ then _ else My)=_;rw[ae (by simp only[ak,aQ];lia),om];have:=Qa l p;unfold nbI at this;rw[cq,this,aR];rfl
   generalize ((l.filter λ t=>t.2==p).map (λ t=>(t.1:Int))++(l.filter λ t=>t.1==p).map λ t=>(t.2:Int)).map Dt.int=zs at e6 e7;generalize ((l.filter λ t=>t.2==p).map (λ t=>h_ t.1))=xs at lc1 e6;generalize ((l.filter λ t=>t.1==p).map (λ t=>h_ t.2))=ys at lc2 e6;rcases Mh e1 with rfl | rfl
   ·simp[qJ,lc1,lc2,hlen,e6,e7]
   ·simp[qJ,lc1,lc2,hlen,e6,e7]
  ·cases h
theorem ow {n:Nat}(h:n<=1000000):yu [h_ n]=kb ((V2 n).map λ(i:Nat)=>h_ i):=by show(if (n:Int)<=1000000/\-1000000<=(n:Int) then kb ((V2 (n:Int).toNat).map λ(i:Nat)=>Dt.int i) else My)=_;rw[ae (by lia),cH]
theorem Mj {l:hG}(h:l.length<=30)(p:Nat):lg [jq l,h_ p]=kb (.tup ((nb l p).map h_)):=by show(dTs (jq l)).bind (λ l=>(ja (h_ p)).bind λ p=>if l.length<=30 then kb (Dt.tup ((nb l p).map h_)) else My)=_;rw[Aj,iY,af,af,ae h]
theorem B0 {x:Dt}{l:hG}(e:dTs x=kb l)(h:l.length<=30)(p:Nat):lg [x,h_ p]=kb (.tup ((nb l p).map h_)):=by show(dTs x).bind (λ l=>(ja (h_ p)).bind λ p=>if l.length<=30 then kb (Dt.tup ((nb l p).map h_)) else My)=_;rw[e,iY,af,af,ae h]
theorem DT:Hg 1 GS qI um:=by
 intro ds d hl h;match ds,h with
 | [x],h =>
  obtain⟨w,e1,h⟩:=iP (show(dW x).map _=_ from h);subst h;obtain⟨rfl,hg⟩:=kf e1;refine⟨.rt (.lst ((qX w).map h_)),?_,rfl⟩;have lc:=kz (enc:=λ i:Nat=>h_ i) (gg:=ggN 0) (ge:=ju qV (hU (ib 2 lg (hU (hW 1) (hU (hW 0) hX))) hX)) (δc:=[My,kb (jq w.2)]) (δa:=λ i=>[kb (h_ i),kb (jq w.2)]) (enc':=λ i=>h_ (nb w.2 i).length) (V2 w.1) λ a _=>⟨rfl,by simp[Mj hg.len]⟩
  have h8:=hg.kg;simp[um,ip,ow (show w.1<=1000000 by lia),lc,qX,dU];lia
theorem Ak:Hg 1 BY jF pZ:=by
 intro ds d hl h;match ds,h with
 | [x],h =>obtain⟨w,e1,h⟩:=iP (show(dW x).map _=_ from h);subst h;refine⟨.nx [kb x],?_,rfl⟩;simp[pZ,sY,e1]
set_option tactic.hygienic true in
theorem xf:Hg 2 yD jG nO:=by
 intro ds d hl h;match ds,h with
 | [x,y],h =>
  obtain⟨w,e1,h⟩:=hZ (show(dW x).bind _=_ from h);obtain⟨p,e2,h⟩:=hZ h;split at h
  ·rename_i hc
   cases h;obtain⟨rfl,hg⟩:=kf e1;rw[jd e2];refine⟨.nx [kb (ip w),kb (h_ p)],?_,rfl⟩;have:(p:Int)<w.1:=by lia
   simp[nO,ip,h_,this]
  ·cases h
abbrev Web:=Nat×hG
def goQ (w:Web)(l:List Rat):List Rat:=(l.zip (qX w)).map λ qd=>qd.1*V4 1 qd.2
def B1 (w:Web)(l:List Rat)(p:Nat):List Rat:=(nb w.2 p).map λ j=>(goQ w l).getD j 0
def Sb (w:Web)(l:List Rat):List Rat:=(V2 w.1).map λ p=>(B1 w l p).sum
structure UY (w:Web)(l:List Rat):Prop where
 len:l.length=w.1
 deg:∀ d∈qX w,0<d/\d<=1000
 sm:∀ q∈l,sm q
 nb:∀ p<w.1,∀ j∈nb w.2 p,j<w.1
 tot:∀ p<w.1,Md 0 (B1 w l p)=kb (B1 w l p).sum
def Ml (w:Web)(l:List Rat):Bool:=decide (l.length=w.1)&&((qX w).all λ d=>decide (0<d/\d<=1000))&&(l.all λ q=>decide (sm q))&&((V2 w.1).all λ p=>(nb w.2 p).all λ j=>decide (j<w.1))&&((V2 w.1).all λ p=>decide (Md 0 (B1 w l p)=kb (B1 w l p).sum))
def dQt:Dt->g6 (List Rat)
 | .tup ds=>dQs ds
 | _=>My
@[simp] theorem T5 (l:List Rat):dQt (.tup (l.map iF))=kb l:=Mc l
def B2:List Dt->g6 Dt
 | [x,y]=>(dW x).bind λ w=>(dQt y).bind λ l=>if Ml w l=V0 then kb (.tup ((Sb w l).map iF)) else My
 | _=>My
abbrev B3:=PY
abbrev Al:=Ah
abbrev zm:=jX
theorem Am:∀ (l l':List Rat),rC (l.map iF) (l'.map iF)=V0
 | [],_=>by cases ‹List Rat›<;>rfl
 | _::_,[]=>rfl
 | a::r,b::r'=>by show(sh2 (iF a) (iF b)&&rC (r.map iF) (r'.map iF))=V0;rw[Am r r'];rfl
theorem xg (a b:Rat):dEq (iF a) (iF b)=decide (a=b):=by
 have:dEq (iF a) (iF b)=((a.num==b.num)&&(((a.den:Int)==(b.den:Int))&&V0)):=by simp[iF,dEq,kM]
 rw[this,bj];simp;constructor
 ·rintro⟨h1,h2⟩;exact Rat.ext h1 (by lia)
 ·rintro rfl;exact⟨rfl,rfl⟩
theorem uo:∀ (l l':List Rat),kM (l.map iF) (l'.map iF)=decide (l=l')
 | [],[]=>by simp[kM]
 | [],_::_=>by simp[kM]
 | _::_,[]=>by simp[kM]
 | a::r,b::r'=>by
  have:kM ((a::r).map iF) ((b::r').map iF)=(dEq (iF a) (iF b)&&kM (r.map iF) (r'.map iF)):=by simp[kM]
  rw[this,xg,uo r r',bj];simp
@[simp] theorem VI (l l':List Rat):kX (.tup (l.map iF)) (.tup (l'.map iF))=kb (.bl (decide (l=l'))):=by unfold kX;rw[ae (show sh3 (.tup (l.map iF)) (.tup (l'.map iF))=V0 from Am l l'),lW,uo]
@[simp] theorem VJ (l l':List Rat):lK (.tup (l.map iF)) (.tup (l'.map iF))=kb (.bl (!decide (l=l'))):=by unfold lK;rw[ae (show sh3 (.tup (l.map iF)) (.tup (l'.map iF))=V0 from Am l l'),lW,uo]
theorem UZ (a b:Rat):kX (iF a) (iF b)=kb (.bl (decide (a=b))):=by unfold kX;rw[ae (show sh3 (iF a) (iF b)=V0 from rfl),xg]
theorem U0 (a b:Rat):lK (iF a) (iF b)=kb (.bl (!decide (a=b))):=by unfold lK;rw[ae (show sh3 (iF a) (iF b)=V0 from rfl),xg]
theorem B4 (w:Web):(qX w).length=w.1:=by simp[qX]
theorem getD_at {l:List Rat}{j:Nat}(h:j<l.length):atI (l.map iF) (j:Int)=kb (iF (l.getD j 0)):=by have:=oK (xs:=l.map iF) (j:=j) (v:=iF l[j]) (by simp[h]);rw[this,aA,aH h];rfl
theorem Fx {w:Web}(e:dW (ip w)=kb w):jF [ip w]=kb .non:=by show(dW (ip w)).map _=_;rw[e];rfl
theorem uq {w:Web}(e:dW (ip w)=kb w){p:Nat}(h:p<w.1):jG [ip w,h_ p]=kb .non:=by show(dW (ip w)).bind (λ w=>(ja (h_ p)).bind λ p=>if p<w.1 then kb Dt.non else My)=_;rw[e,iY,af,af,ae h]
def N8 (K:g9)(J:It)(H:Hp)(ds:List Dt):Prop:=∀ H',jS H H'->(∀ (i:Nat) d,ds[i]?=kb d->J.go i H'/\∀ x H'',J.yld i H' x H''->H''=H'/\Is K H'' x d)/\J.stop ds.length H'
def iDT (K:g9)(g:DE->g6 (List Dt)):TI:=λ σ H R=>∃ δ ds,Sat K H σ δ/\g δ=kb ds/\n_ ds/\∀ J H',iA H H'->N8 K J H' ds->R J H'
section
variable {X:Cx}{e:Expr}{tg:Expr}
theorem Fy {g:DE->g6 Dt}(h:PD X e g):PI X tg e (iDT X.K (gI sF g)):=(HR h).of λ σ H R hz1=>by obtain⟨δ,ds,S,q,im,k⟩:=hz1;obtain⟨x,e1,e2⟩:=hZ q;have e2:=uf e2;subst e2;refine⟨δ,_,S,e1,λ v H1 s1 i1=>?_⟩;obtain⟨a,xs,rfl,hq,is⟩:=i1.iR;refine⟨a,rfl,⟨xs,hq⟩,k _ H1 s1 λ H2 s2=>⟨λ i d hd=>?_,⟨xs,s2.sD hq,by rw[is.length];exact aq _⟩⟩⟩;have is2:=is.text s2 im;obtain⟨v,hv,iv⟩:=is2.get hd;exact⟨⟨xs,v,s2.sD hq,hv⟩,λ x H3 hz2=>by obtain⟨e3,y⟩:=hz2;subst e3;have:=y xs (s2.sD hq);rw[hv]at this;cases this;exact⟨rfl,iv⟩⟩
theorem B5 {K:g9}{J:It}{H0:Hp}{ds:List Dt}(ok:N8 K J H0 ds){g:TG}{tb:TS}{D:Ends}{σ:St}{H:Hp}(Pv:Nat->St->Hp->Prop)(h0:Pv 0 σ H)(hl:∀ i σ H,i<=ds.length->Pv i σ H->jS H0 H)
  (hs:∀ i d x σ H,ds[i]?=kb d->Is K H x d->Pv i σ H->g x σ H λ σ2 H2=>tb {D with nx:=Pv (i+1),ct:=Pv (i+1),bk:=D.nx} σ2 H2) (hd:∀ σ H,Pv ds.length σ H->D.nx σ H) :
  ∃ W:Nat->Nat->St->Hp->Prop,(∃ m,W 0 m σ H)/\∀ i m σ H,W i m σ H ->
   (J.stop i H/\D.nx σ H)\/(J.go i H/\∃ N:St->Hp->Prop,(∀ σ' H',N σ' H'->∃ m',m'<m/\W (i+1) m' σ' H')/\∀ x H',J.yld i H x H'->g x σ H' λ σ2 H2=>tb {D with nx:=N,ct:=N,bk:=D.nx} σ2 H2):=by
 refine⟨λ i m σ H=>m=ds.length-i/\i<=ds.length/\Pv i σ H,⟨ds.length,by simp,aZ _,h0⟩,?_⟩;rintro i m σ H ⟨rfl,hi,p⟩;obtain⟨items,stop⟩:=ok H (hl i σ H hi p);by_cases hlt:i<ds.length
 ·have hdi:ds[i]?=kb ds[i]:=by simp[hlt]
  obtain⟨go,yld⟩:=items i _ hdi;refine .inr ⟨go,Pv (i+1),λ σ' H' p'=>⟨ds.length-(i+1),by lia,rfl,hlt,p'⟩,λ x H' y=>?_⟩;obtain⟨rfl,ix⟩:=yld x H' y;exact hs i _ x σ _ hdi ix p
 ·have e:i=ds.length:=by lia
  subst e;exact .inl ⟨stop,hd σ H p⟩
end
theorem ox (fd:hG)(k:Nat):rb fd k=V0↔k∈fd.map (·.1):=by unfold rb;simp[fB]
theorem xh (fd:hG)(k:Nat):mK (kvD (kd fd)) (Sum.inl (k:Int))=if rb fd k=V0 then kb (.int (look fd k)) else My:=by
 induction fd with
 | nil=>rfl
 | cons p r ih =>
  by_cases h:p.1=k
  ·have e1:mK (kvD (kd (p::r))) (Sum.inl (k:Int))=kb (.int p.2):=si (p:=(Sum.inl (p.1:Int),V.int p.2)) (by rw[h])
   rw[e1];have e2:rb (p::r) k=V0:=by rw[ox];simp[h]
   have e3:look (p::r) k=p.2:=by unfold look;rw[bf];simp[h]
   rw[ae e2,e3]
  ·have hne:¬ (Sum.inl (p.1:Int):Key)=Sum.inl (k:Int):=λ q=>h (by have:=Sum.inl.inj q;lia)
   have e1:mK (kvD (kd (p::r))) (Sum.inl (k:Int))=mK (kvD (kd r)) (Sum.inl (k:Int)):=by show mK ((Sum.inl (p.1:Int),V.int p.2)::kvD (kd r)) _=_;unfold mK;rw[dJ];have:decide ((Sum.inl (p.1:Int):Key)=Sum.inl (k:Int))=V1:=decide_eq_false hne;simp only[this]
   have e2:rb (p::r) k=rb r k:=by unfold rb;simp[h]
   have e3:look (p::r) k=look r k:=by
    unfold look;rw[bf];have:(k==p.1)=V1:=by simpa using aY h
    rw[this]
   rw[e1,e2,e3,ih]
theorem Ju {fd:hG}{k:Nat}(v:Nat)(h:rb fd k=V1):putK (kvD (kd fd)) (Sum.inl (k:Int)) (.int v)=kvD (kd (fd++[(k,v)])):=by
 have e:mK (kvD (kd fd)) (Sum.inl (k:Int))=My:=by rw[xh,h];rfl
 rw[Ih _ e];simp[kvD,kd]
def univ (l:hG)(s:Nat):List Nat:=s::(l.map (·.1)++l.map (·.2))
theorem mU {l:hG}{p j:Nat}:j∈nb l p↔(j,p)∈l\/(p,j)∈l:=by
 rw[(sX l p).mem_iff,bh,aE,aE];simp only[aT,beq_iff_eq];constructor
 ·rintro (⟨⟨a,b⟩,⟨h1,h2⟩,rfl⟩ | ⟨⟨a,b⟩,⟨h1,h2⟩,rfl⟩)
  ·simp at h2;subst h2;exact .inl h1
  ·simp at h2;subst h2;exact .inr h1
 ·rintro (h | h)
  ·exact .inl ⟨(j,p),⟨h,rfl⟩,rfl⟩
  ·exact .inr ⟨(p,j),⟨h,rfl⟩,rfl⟩
theorem Fz {l:hG}{s p j:Nat}(h:j∈nb l p):j∈univ l s:=by
 refine ar _ ?_;rcases mU.mp h with h | h
 ·exact aM _ (aE.mpr ⟨_,h,rfl⟩)
 ·exact ao _ (aE.mpr ⟨_,h,rfl⟩)
structure BI (u:List Nat)(st:hG×List Nat):Prop where
 nd:(st.1.map (·.1)).Nodup
 sub:∀ q∈st.1,q.1∈u
 by':∀ j∈st.2,j∈st.1.map (·.1)
set_option tactic.hygienic true in
theorem zo {u:List Nat}{st:hG×List Nat}{p j:Nat}(h:BI u st)(hj:j∈u):BI u (ji p st j):=by
 unfold ji;split
 ·exact h
 ·rename_i hk
  have hk:j∉st.1.map (·.1):=λ m=>hk ((ox _ _).mpr m);refine⟨?_,?_,?_⟩
  ·rw[bp];exact zY h.nd hk
  ·intro q hq
   rcases bh.mp hq with z | z
   ·exact h.sub q z
   ·rw[aN.mp z];exact hj
  ·intro i hi
   rw[bp];rcases bh.mp hi with z | z
   ·exact aM _ (h.by' i z)
   ·rw[aN.mp z];exact ao _ (by simp)
theorem xi {st:hG×List Nat}{p j:Nat}:(ji p st j).1.length+st.2.length=st.1.length+(ji p st j).2.length:=by unfold ji;split<;>simp<;>lia
theorem p_ {st:hG×List Nat}{p j k:Nat}(h:k∈st.1.map (·.1)):k∈(ji p st j).1.map (·.1):=by
 unfold ji;split
 ·exact h
 ·rw[bp];exact aM _ h
theorem sZ {α:Type}{f:hG×List Nat->α->hG×List Nat}{u:List Nat}:∀ (xs:List α) {st:hG×List Nat},(∀ x∈xs,∀ st,BI u st->BI u (f st x))->BI u st->BI u (xs.foldl f st)
 | [],_,_,h=>h
 | x::r,_,hf,h=>sZ r (λ y hy=>hf y (ar _ hy)) (hf x av _ h)
theorem qa {α:Type}{f:hG×List Nat->α->hG×List Nat}(hf:∀ st x,(f st x).1.length+st.2.length=st.1.length+(f st x).2.length):∀ (xs:List α) (st:hG×List Nat),(xs.foldl f st).1.length+st.2.length=st.1.length+(xs.foldl f st).2.length
 | [],_=>rfl
 | x::r,st=>by have h1:=hf st x;have h2:=qa hf r (f st x);rw[cA];lia
theorem mD {α:Type}{f:hG×List Nat->α->hG×List Nat}(hf:∀ st x k,k∈st.1.map (·.1)->k∈(f st x).1.map (·.1)):∀ (xs:List α) (st:hG×List Nat) (k:Nat),k∈st.1.map (·.1)->k∈(xs.foldl f st).1.map (·.1)
 | [],_,_,h=>h
 | x::r,st,k,h=>mD hf r (f st x) k (hf st x k h)
theorem B6 {l:hG}{s p:Nat}{st:hG×List Nat}(h:BI (univ l s) st):BI (univ l s) (visit l st p):=sZ _ (λ _ hx _ hs=>zo hs (Fz hx)) h
theorem zq {l:hG}{p:Nat}(st:hG×List Nat):(visit l st p).1.length+st.2.length=st.1.length+(visit l st p).2.length:=qa (λ _ _=>xi) _ st
theorem rH {l:hG}{p:Nat}(st:hG×List Nat)(k:Nat)(h:k∈st.1.map (·.1)):k∈(visit l st p).1.map (·.1):=mD (λ _ _ _=>p_) _ st k h
theorem xj {l:hG}{s:Nat}{fd:hG}{iQ:List Nat}(h:BI (univ l s) (fd,[])):BI (univ l s) (j9 l fd iQ):=sZ _ (λ _ _ _ hs=>B6 hs) h
theorem ur {l:hG}{fd:hG}{iQ:List Nat}:(j9 l fd iQ).1.length=fd.length+(j9 l fd iQ).2.length:=by have:=qa (f:=visit l) (λ st p=>zq st) iQ (fd,[]);unfold j9;simpa using this
theorem BI.le {u:List Nat}{st:hG×List Nat}(h:BI u st):st.1.length<=u.length:=by
 have h1:(st.1.map (·.1)).length<=u.length:=by
  have hs:∀ x∈st.1.map (·.1),x∈u:=λ x hx=>by obtain⟨q,hq,rfl⟩:=aE.mp hx;exact h.sub q hq
  exact aP h.nd hs
 simpa using h1
theorem s9 (l:hG)(s:Nat):(univ l s).length=2*l.length+1:=by simp[univ];lia
theorem Mm {k:Nat}{A:Around}(hr:kN k A):A.units<cLine:=by have:=iW hr;lia
section
variable {K:g9}
theorem B7 {g:DE->g6 Bool}(σ:St)(H:Hp)(Q Q':Bool->Hp->Prop)(h:∀ b H1,Q b H1->Q' b H1)(q:tDT K g σ H Q):tDT K g σ H Q':=by obtain⟨δ,b,S,e,k⟩:=q;exact⟨δ,b,S,e,λ H' s=>h b H' (k H' s)⟩
def intAt (i:Nat)(σ:St)(_:Hp):Nat:=match σ[i]? with
 | some (kb (.int y))=>y.toNat
 | _=>0
theorem s_ {H:Hp}{σ:St}{δ:DE}(S:Sat K H σ δ){i:Nat}{y:Nat}(h:δ[i]?=kb (kb (h_ y)))(H':Hp):intAt i σ H'=y:=by obtain⟨v,hv,iv⟩:=S.at_ i _ h;unfold intAt;rw[hv,iv.int_inv];simp
theorem FA (a:Int):(if a<0 then -a else a)=((a.natAbs:Nat):Int):=by split<;>lia
end
end L2
namespace L2
open PySem PySem.W PySem.Spec PyProof.Rows Tb
section
variable {X:Cx}
theorem B8:j3 X (.type "range") (λ xs H Q=>∃ j:Int,xs=[V.int j]/\∀ p,H p=My->Q (.ref p) (upd H p (.rng 0 j))):=by intro pins s σ H xs us Q I r h;obtain⟨j,rfl,q⟩:=h;obtain⟨u,rfl,t,rfl⟩:=vals1 r;refine call_range_1 ?_;have hn:=I.hok.fresh (aq s.heap.objs.size);exact⟨.ref s.heap.objs.size,_,I.laid (o:=.rng 0 j) (λ b o e=>ai _ e) (aq _) ⟨_,_,_,aK _ rfl⟩,rfl,q _ hn⟩
theorem DU (hc:X.calm=V0):j3 X (.type "list") (λ xs H Q=>∃ (r:Addr) (n:Nat),xs=[V.ref r]/\H r=kb (.rng 0 n)/\n<=1000/\∀ p,H p=My->Q (.ref p) (upd H p (.lst ((V2 n).map λ(i:Nat)=>V.int i)))):=by
 intro pins s σ H xs us Q I r h;obtain⟨a,n,rfl,ha,hn,q⟩:=h;obtain⟨u,rfl,ru⟩:=vals1 r;cases ru;obtain⟨t,t',t'',e⟩:=I.hok a _ ha;have hsz:Builtin.Range.rangeSize 0 (n:Int) 1=n:=by rw[rangeSize_one];split<;>lia
 refine call_list_range (I.ok.hd hc) (show IsRange s.heap a 0 n 1 t t' t'' from e) (small_one (by lia) (by lia) (by lia) (by lia)) hsz (by lia) λ h' tk acc c kp ho ia=>?_;have hfr:=I.hok.fresh (aq s.heap.objs.size);refine⟨.ref s.heap.objs.size,_,I.laid (o:=.lst ((V2 n).map λ(i:Nat)=>V.int i)) kp (aq _) ⟨?_,acc.toList,c,?_,by simpa using ho⟩,rfl,q _ hfr⟩
 ·simp;rw[sizeLine_eq];lia
 ·obtain⟨i1,i2⟩:=ia
  have go:∀ (k:Nat) (l:List g_),l.length=k->(∀ (j:Nat) v,l[j]?=kb v->∃ t,v=Value.int (0+(j:Int)*1) t)->Vals ((V2 k).map λ(i:Nat)=>V.int i) l:=by
   intro k;induction k with
   | zero=>intro l hl _;rw[d3.mp hl];exact .nil
   | succ k ih =>
    intro l hl hv;have e2:l=l.take k++[l[k]'(by lia)]:=by
     have h1:l.take (k+1)=l.take k++[l[k]'(by lia)]:=by rw[fk,aH (by lia)];rfl
     rw[<-h1,List.take_of_length_le (by lia)]
    rw[e2,eg,bp];refine Vals.append (ih _ (by rw[dY];lia) λ j v hj=>?_) (.cons ?_ .nil)
    ·by_cases hjk:j<k
     ·rw[eP hjk]at hj;exact hv j v hj
     ·rw[bu (by rw[dY];lia)]at hj;cases hj
    ·obtain⟨t,ht⟩:=hv k (l[k]'(by lia)) (by simp);exact⟨t,by rw[ht];congr 1;lia⟩
  exact go n acc.toList (by simpa using i1) λ j v hj=>i2 j v (by rw[<-bF];exact hj)
end
end L2
namespace L2
open PySem PySem.Spec PyProof.Rows Zp
section
variable {X:Cx}{a b e o:Expr}{es:List Expr}{pos:Pos}
end
open PySem.W PySem.SeqAt Tb
section
variable {X:Cx}{pins:hJ}{σ:St}{H:Hp}{s:hE}
end
end L2
namespace L2
open PySem PySem.Spec PyProof.Rows Zp
structure Drawn (m:Nat)(cl:List Nat)(tb te:hG):Prop where
 m2:2<=m
 m8:m<=8
 perm:cl.Perm (V2 m)
 tbl:tb.length=m-1
 tbk:∀ k,k<m-1->∃ a,tb[k]?=kb (a,k+1)/\a<=k
 teo:∀ t∈te,t.1<m/\t.2<m/\t.1≠t.2
 tel:te.length<=12
def rel (cl:List Nat)(t:Nat×Nat):Nat×Nat:=(min (cl.getD t.1 0) (cl.getD t.2 0),max (cl.getD t.1 0) (cl.getD t.2 0))
def keys (fd:hG):List Nat:=fd.map (·.1)
def Done (l:hG)(fd:hG)(k:Nat):Prop:=∀ j∈nb l k,j∈keys fd
set_option tactic.hygienic true in
theorem DV {l:hG}(st:hG×List Nat)(p:Nat):Done l (visit l st p).1 p:=by
 intro j hj;unfold visit;have go:∀ (xs:List Nat) (st:hG×List Nat),j∈xs->j∈keys (xs.foldl (ji p) st).1:=by
  intro xs;induction xs with
  | nil=>intro st h;cases h
  | cons x r ih =>
   intro st h;rw[cA];rcases aG.mp h with rfl | h
   ·refine mD (λ st p k hk=>p_ hk) r _ j ?_
    unfold ji;split
    ·rename_i hk;exact(ox _ _).mp hk
    ·rw[bp];exact ao _ (by simp)
   ·exact ih _ h
 exact go _ _ hj
theorem rJ {l:hG}{fd:hG}:∀ (iQ:List Nat) (st:hG×List Nat) (k:Nat),(k∈iQ\/Done l st.1 k)->Done l (iQ.foldl (visit l) st).1 k
 | [],st,k,h=>h.elim (λ z=>by cases z) id
 | e::r,st,k,h=>by
  rw[cA];refine rJ (fd:=fd) r (visit l st e) k ?_;rcases h with h | h
  ·rcases aG.mp h with rfl | h
   ·exact .inr (DV st k)
   ·exact .inl h
  ·exact .inr λ j hj=>rH st j (h j hj)
set_option tactic.hygienic true in
theorem GV {l:hG}:∀ (iQ:List Nat) (st:hG×List Nat) (k:Nat),k∈keys (iQ.foldl (visit l) st).1->k∈keys st.1\/k∈(iQ.foldl (visit l) st).2:=by
 have sub2:∀ (p:Nat) (xs:List Nat) (st:hG×List Nat) (k:Nat),k∈st.2->k∈(xs.foldl (ji p) st).2:=by
  intro p xs;induction xs with
  | nil=>intro st k h;exact h
  | cons x r ih =>
   intro st k h;rw[cA];refine ih _ k ?_;unfold ji;split
   ·exact h
   ·exact aM _ h
 have new1:∀ (p:Nat) (xs:List Nat) (st:hG×List Nat) (k:Nat),k∈keys (xs.foldl (ji p) st).1->k∈keys st.1\/k∈(xs.foldl (ji p) st).2:=by
  intro p xs;induction xs with
  | nil=>intro st k h;exact .inl h
  | cons x r ih =>
   intro st k h;rw[cA]at h ⊢;rcases ih _ k h with z | z
   ·unfold ji at z
    split at z
    ·exact .inl z
    ·rw[keys,bp]at z
     rcases bh.mp z with y | y
     ·exact .inl y
     ·refine .inr (sub2 p r _ k ?_)
      unfold ji;rename_i hk;rw[ag hk];have:k=x:=by simpa using y
      rw[this];exact ao _ (by simp)
   ·exact .inr z
 intro iQ;induction iQ with
 | nil=>intro st k h;exact .inl h
 | cons e r ih =>
  intro st k h;rw[cA]at h ⊢;have sub:∀ (xs:List Nat) (st:hG×List Nat) (k:Nat),k∈st.2->k∈(xs.foldl (visit l) st).2:=by
   intro xs;induction xs with
   | nil=>intro st k h;exact h
   | cons x r ih=>intro st k h;rw[cA];exact ih _ k (sub2 x _ st k h)
  rcases ih _ k h with z | z
  ·rcases new1 e _ st k z with y | y
   ·exact .inl y
   ·exact .inr (sub r _ k y)
  ·exact .inr z
theorem tf {l:hG}{s:Nat}:∀ (m:Nat) (fd:hG) (iQ:List Nat),BI (univ l s) (fd,iQ)->(∀ k∈keys fd,k∈iQ\/Done l fd k)->(iQ≠[]->2*l.length+3<=m+fd.length) ->
  (∀ k∈keys (nB l m fd iQ),Done l (nB l m fd iQ) k)/\(∀ k∈keys fd,k∈keys (nB l m fd iQ))/\BI (univ l s) (nB l m fd iQ,[])
 | m,fd,[],bi,hd,_=>by
  have e:nB l m fd []=fd:=by cases m<;>rfl
  rw[e];exact⟨λ k hk=>(hd k hk).elim (λ z=>by cases z) id,λ k h=>h,⟨bi.nd,bi.sub,by simp⟩⟩
 | 0,fd,e::es,bi,hd,hf=>by have:=bi.le;rw[s9]at this;have h:=hf (by simp);have:fd.length<=2*l.length+1:=this;lia
 | m+1,fd,e::es,bi,hd,hf=>by
  have hf:=hf (by simp);have bi':BI (univ l s) (fd,[]):=⟨bi.nd,bi.sub,by simp⟩;have lb:=xj (iQ:=e::es) bi';have ll:=ur (l:=l) (fd:=fd) (iQ:=e::es);obtain⟨h1,h2,h3⟩:=tf m (j9 l fd (e::es)).1 (j9 l fd (e::es)).2 ⟨lb.nd,lb.sub,lb.by'⟩ (λ k hk=>by
   rcases GV (l:=l) (e::es) (fd,[]) k hk with z | z
   ·exact .inr (rJ (fd:=fd) (e::es) (fd,[]) k (hd k z))
   ·exact .inl z) (λ hne=>by
   have:0<(j9 l fd (e::es)).2.length:=de.mpr hne;lia)
  exact⟨h1,λ k hk=>h2 k (mD (λ st p k hk=>rH st k hk) (e::es) (fd,[]) k hk),h3⟩
theorem FC {l:hG}{n:Nat}(ok:∀ p∈l,p.1<p.2/\p.2<n)(h0:0<n)(reach:∀ S:Nat->Prop,S 0->(∀ p∈l,S p.1↔S p.2)->∀ v,v<n->S v):(bfs l 0).length=n:=by
 obtain⟨h1,h2,h3⟩:=tf (l:=l) (s:=0) (2*l.length+2) [(0,0)] [0] ⟨by simp,λ q hq=>by rw[aN.mp hq];exact av,λ j hj=>by simpa using hj⟩ (λ k hk=>.inl (by simpa [keys] using hk)) (λ _=>by simp);have e:nB l (2*l.length+2) [(0,0)] [0]=bfs l 0:=rfl;rw[e]at h1 h2 h3;have sub:∀ k∈keys (bfs l 0),k∈V2 n:=λ k hk=>by
  obtain⟨q,hq,rfl⟩:=aE.mp hk;rw[ay];have:=h3.sub q hq;rcases aG.mp this with z | z
  ·rw[z];exact h0
  ·rcases bh.mp z with z | z<;>(obtain⟨p,hp,e⟩:=aE.mp z;have:=ok p hp;rw[<-e];lia)
 have all:=reach (λ v=>v∈keys (bfs l 0)) (h2 0 (by simp[keys])) λ p hp=>⟨λ h=>h1 _ h _ (mU.mpr (.inr hp)),λ h=>h1 _ h _ (mU.mpr (.inl hp))⟩;have le1:(keys (bfs l 0)).length<=(V2 n).length:=aP h3.nd sub;have le2:(V2 n).length<=(keys (bfs l 0)).length:=aP bw λ v hv=>all v (ay.mp hv);rw[bA]at le1 le2;have:(keys (bfs l 0)).length=(bfs l 0).length:=by simp[keys]
 lia
theorem mV (p q:Nat×Nat):mS p q=V0↔p.1<q.1\/(p.1=q.1/\p.2<q.2):=by
 unfold mS;by_cases h1:(p.1:Int)=q.1
 ·have h1':p.1=q.1:=by lia
  by_cases h2:(p.2:Int)=q.2
  ·have h2':p.2=q.2:=by lia
   simp[HT.lexLt,h1,h2,h1',h2']
  ·simp[HT.lexLt,h1,h2,h1']
 ·have h1':¬ p.1=q.1:=by lia
  simp[HT.lexLt,h1,h1']
theorem vT:∀ {l:hG},l.Pairwise (λ a b=>mS a b=V0)->rise l=V0
 | [],_=>rfl
 | [_],_=>rfl
 | a::b::r,h=>by have h1:=(eY.mp h).1 b av;have ih:=vT (eY.mp h).2;unfold rise at ih ⊢;simp only[List.tail_cons,fW,List.all_cons,h1,Bool.true_and]at ih ⊢;exact ih
theorem B9 {l:hG}(h:l.Pairwise (λ a b=>mS a b=V0)):l.Nodup:=by rw[aV];refine h.imp λ{a b} hab e=>?_;subst e;have:=(mV a a).mp hab;lia
section
variable {m:Nat}{cl:List Nat}{tb te:hG}(D:Drawn m cl tb te)
include D
theorem Drawn.len:cl.length=m:=by rw[D.perm.length_eq,bA]
theorem Drawn.lt {i:Nat}(h:i<m):cl.getD i 0<m:=by
 have hl:i<cl.length:=by rw[D.len];exact h
 rw[aA,aH hl];exact ay.mp (D.perm.mem_iff.mp (eM hl))
theorem Drawn.inj {i j:Nat}(hi:i<m)(hj:j<m)(e:cl.getD i 0=cl.getD j 0):i=j:=by
 have h1:i<cl.length:=by rw[D.len];exact hi
 have h2:j<cl.length:=by rw[D.len];exact hj
 rw[aA,aH h1,aA,aH h2]at e;have nd:cl.Nodup:=D.perm.nodup_iff.mpr bw;exact(List.getElem_inj nd).mp e
theorem Drawn.sur {v:Nat}(h:v<m):∃ i,i<m/\cl.getD i 0=v:=by obtain⟨i,hi,e⟩:=bX (D.perm.mem_iff.mpr (ay.mpr h));exact⟨i,by rw[<-D.len];exact hi,by rw[aA,aH hi];exact e⟩
theorem Drawn.all {t:Nat×Nat}(h:t∈tb++te):t.1<m/\t.2<m/\t.1≠t.2:=by
 rcases bh.mp h with h | h
 ·obtain⟨k,hk,e⟩:=bX h
  have hk':k<m-1:=by rw[<-D.tbl];exact hk
  obtain⟨a,e1,ha⟩:=D.tbk k hk';rw[aH hk,e]at e1;cases e1;exact⟨by show a<m;lia,by show k+1<m;lia,by show a≠k+1;lia⟩
 ·exact D.teo t h
theorem Drawn.Sd {t:Nat×Nat}(h:t∈tb++te):(rel cl t).1<(rel cl t).2/\(rel cl t).2<m:=by obtain⟨h1,h2,h3⟩:=D.all h;have l1:=D.lt h1;have l2:=D.lt h2;have ne:cl.getD t.1 0≠cl.getD t.2 0:=λ e=>h3 (D.inj h1 h2 e);unfold rel;simp only;lia
theorem Mn {ss:hG}(hp:ss.Pairwise (λ a b=>mS a b=V0))(hm:∀ t,t∈ss↔t∈(tb++te).map (rel cl)):Good (m,ss)/\(te=[]->ss.length+1=m):=by
 have m2:=D.m2;have m8:=D.m8;have nd:=B9 hp;have ok:∀ p∈ss,p.1<p.2/\p.2<m:=λ p h=>by obtain⟨t,ht,rfl⟩:=aE.mp ((hm p).mp h);exact D.Sd ht
 have len1:ss.length<=((tb++te).map (rel cl)).length:=aP nd λ t h=>(hm t).mp h;have len2:ss.length<=30:=by have:=D.tel;have:=D.tbl;simp at len1;lia
 have tie:∀ k,k<m-1->∃ a,a<=k/\(a,k+1)∈tb:=λ k hk=>by obtain⟨a,e,ha⟩:=D.tbk k hk;exact⟨a,ha,bc e⟩
 refine⟨⟨m2,m8,ok,vT hp,?_,len2,?_⟩,λ hte=>?_⟩
 ·refine FC ok (by lia) λ S s0 cls v hv=>?_
  have step:∀ k,k<m-1->∃ a,a<=k/\(S (cl.getD a 0)↔S (cl.getD (k+1) 0)):=λ k hk=>by
   obtain⟨a,ha,mem⟩:=tie k hk;refine⟨a,ha,?_⟩;have h:=cls (rel cl (a,k+1)) ((hm _).mpr (aE.mpr ⟨_,aM _ mem,rfl⟩));unfold rel at h;simp only at h;by_cases hc:cl.getD a 0<=cl.getD (k+1) 0
   ·rw[gO hc,gD hc]at h;exact h
   ·rw[gE (by lia),gP (by lia)]at h;exact h.symm
  have con:∀ i,i<m->(S (cl.getD 0 0)↔S (cl.getD i 0)):=by
   intro i;induction i using Nat.strongRecOn with
   | ind i ih =>
    intro hi;cases i with
    | zero=>exact Iff.rfl
    | succ k =>obtain⟨a,ha,hs⟩:=step k (by lia);exact(ih a (by lia) (by lia)).trans hs
  obtain⟨i0,h0,e0⟩:=D.sur (v:=0) (by lia);obtain⟨i,hi,e⟩:=D.sur hv;rw[<-e];refine(con i hi).mp ((con i0 h0).mpr ?_);rw[e0];exact s0
 ·obtain⟨a,_,mem⟩:=tie 0 (by lia);intro e;have:=(hm (rel cl (a,0+1))).mpr (aE.mpr ⟨_,aM _ mem,rfl⟩);have e:ss=[]:=e;rw[e]at this;cases this
 ·subst hte
  rw[bH]at hm;have ndr:(tb.map (rel cl)).Nodup:=by
   rw[aV,bM,cQ];intro i j hi hj hij e;obtain⟨a,e1,ha⟩:=D.tbk i (by rw[<-D.tbl];exact hi);obtain⟨b,e2,hb⟩:=D.tbk j (by rw[<-D.tbl];exact hj);rw[aH hi]at e1;rw[aH hj]at e2;rw[aF e1,aF e2]at e;have hi':i<m-1:=by rw[<-D.tbl];exact hi
   have hj':j<m-1:=by rw[<-D.tbl];exact hj
   unfold rel at e;simp only[Prod.mk.injEq]at e;have hc:(cl.getD a 0=cl.getD b 0/\cl.getD (i+1) 0=cl.getD (j+1) 0)\/(cl.getD a 0=cl.getD (j+1) 0/\cl.getD (i+1) 0=cl.getD b 0):=by lia
   rcases hc with⟨c1,c2⟩ | ⟨c1,c2⟩
   ·have:=D.inj (by lia) (by lia) c2;lia
   ·have:=D.inj (by lia) (by lia) c1;have:=D.inj (by lia) (by lia) c2;lia
  have le2:(tb.map (rel cl)).length<=ss.length:=aP ndr λ t h=>(hm t).mpr h;have:=D.tbl;simp at len1 le2;show ss.length+1=m;lia
end
end L2
namespace L2
open PySem PySem.Spec PyProof.Rows
set_option genInjectivity false in
set_option genSizeOf false in
structure FnT (K:g9)(mg:gZ)(n:Str)(s:Stmt)(ps:List Str) where
 f:Addr
 fd:FuncData
 F:Fun K n n s f fd
 m:mg n=kb (.ref f)
 bb:∀ us:List g_,us.length=ps.length->bindArgs fd ⟨us,[]⟩=pure (ps.zip us)
theorem FnT.b {K:g9}{mg:gZ}{n:Str}{s:Stmt}{ps:List Str}(t:FnT K mg n s ps):Binds K t.fd ps []:=.all t.bb
structure CtT (K:g9)(mg:gZ)(n:Str)(d:Dt) where
 u:g_
 v:V
 m:mg n=kb u
 r:RelV v u
 i:∀ H,Is K H v d
abbrev OkT {K:g9}{mg:gZ}{n:Str}{s:Stmt}{ps:List Str}(P:Program)(w:World)(base:Heap)(t:FnT K mg n s ps)(k:Nat)(sp:Sp):Prop:=oJ P w K mg base CX0 k t.f t.fd ps sp
theorem FnT.okD {P:Program}{w:World}{base:Heap}{K:g9}{mg:gZ}{n:Str}{st:Stmt}{ps N:List Str}{k:Nat}{fD:List Dt->g6 Dt}{g:DE->g6 RD}(t:FnT K mg n st ps)(S:iL N ps (il st))
  (hbody:∀ (cdv:g_) (A:Around) (outer:List Env) (s:hE) (H:Hp) (E:XK),kN k (A.deeper (envOfC n (il st) s.heap.objs.size t.f cdv)) ->
   PSs (se CX0 P w K mg base N n (il st) t.f cdv A outer s H E).nox (kC st) (tDS K g))
  (hg:∀ ds d,ds.length=ps.length->fD ds=kb d->∃ r,g (oP N ds)=kb r/\PL r=d):OkT P w base t (k+1) (spD K ps.length fD):=t.F.okD S hbody hg
section
variable {X:Cx}{e:Expr}{es:List Expr}{pos p:Pos}{x:Str}{st:Stmt}{j k n:Nat}{ps:List Str}
theorem pC {sp:Sp}{t:TA}(T:FnT X.K X.mg x st ps)(F:oJ X.prog X.w X.K X.mg X.base CX0 k T.f T.fd ps sp)(hr:kN j X.A)(ha:PA X (e::es) t)(hj:k<=j:=by decide)(hg:Gl X x:=by rfl)(hdb:(x==("__debug__":Str))=V1:=by decide)(he:starEach (e::es) X.env=(V1,eval e X.env)::starEach es X.env:=by rfl)(hpl:(backTo pos (starEach es X.env)).any (·.1)=V1:=by rfl) :
  PE X (.Call (.Name x p) (e::es) [] pos) (mf sp [] E0 t):=zR F (hr.mono hj) hg T.m T.F.kp T.b .nil NL ha hdb he hpl
theorem dC {fD:List Dt->g6 Dt}{gs:DE->g6 (List Dt)}(t:FnT X.K X.mg x st ps)(F:oJ X.prog X.w X.K X.mg X.base CX0 k t.f t.fd ps (spD X.K n fD))(hr:kN j X.A)(ha:PDs X (e::es) gs)(hj:k<=j:=by decide)(hg:Gl X x:=by rfl)(hdb:(x==("__debug__":Str))=V1:=by decide)(he:starEach (e::es) X.env=(V1,eval e X.env)::starEach es X.env:=by rfl)(hpl:(backTo pos (starEach es X.env)).any (·.1)=V1:=by rfl) :
  PD X (.Call (.Name x p) (e::es) [] pos) (ib n fD gs):=Px F (hr.mono hj) t.m t.F.kp t.b ha hg hdb he hpl
theorem dG {d:Dt}(c:CtT X.K X.mg x d)(hg:Gl X x:=by rfl)(hd:(x==("__debug__":Str))=V1:=by decide):PD X (.Name x pos) (gC d):=Pq c.m c.r c.i hg hd
theorem pgo (i:Nat)(hN:X.N.Nodup:=by trivial)(hi:X.N[i]?=kb x:=by rfl)(hx:Loc X.env.scope x:=by trivial)(hf:X.fn x=V0\/X.env.scope.names.lookup x=kb .local:=by trivial):PG X (.Name x pos) (je i):=Lq hN hi hx hf
theorem csc {scope:Scope}(own fr:List Str)(ix:List Nat)(h1:scope.kind=.function:=by rfl)(h2:(scope.names.all λ x=>x.2 != .local || scope.names.lookup x.1==kb .local)=V0:=by rfl)
  (h3:(scope.names.all λ x=>x.2 != .cell)=V0:=by rfl) (h4:(scope.names.all λ x=>x.2 != .free || (X.env.kindOf x.1==kb .cell || X.env.kindOf x.1==kb .free))=V0:=by rfl)
  (h5:(own.all λ x=>scope.names.lookup x==kb .local)=V0:=by rfl) (h6:(fr.all λ x=>scope.names.lookup x==kb .free)=V0:=by rfl) (h7:ix.map (λ i=>X.N[i]?)=fr.map kb:=by rfl) (h8:(own++fr).Nodup:=by decide +kernel):kq X scope own fr ix:=PV h1 h2 h3 h4 h5 h6 h7 h8
end
theorem ls0 {P:List g_->Prop}(h:P [])(us:List g_)(e:us.length=0):P us:=by rw[List.eq_nil_of_length_eq_zero e];exact h
theorem lsS {P:List g_->Prop}{k:Nat}(h:∀ a us,us.length=k->P (a::us))(us:List g_)(e:us.length=k+1):P us:=by
 cases us with
 | nil=>cases e
 | cons a r=>exact h a r (Nat.succ.inj e)
theorem ls1 {P:List g_->Prop}(h:∀ a,P [a])(us:List g_)(e:us.length=1):P us:=lsS (k:=0) (λ a us e=>ls0 (P:=λ us=>P (a::us)) (h a) us e) us e
theorem ls2 {P:List g_->Prop}(h:∀ a b,P [a,b])(us:List g_)(e:us.length=2):P us:=lsS (k:=1) (λ a us e=>ls1 (P:=λ us=>P (a::us)) (h a) us e) us e
theorem ls3 {P:List g_->Prop}(h:∀ a b c,P [a,b,c])(us:List g_)(e:us.length=3):P us:=lsS (k:=2) (λ a us e=>ls2 (P:=λ us=>P (a::us)) (h a) us e) us e
theorem ls4 {P:List g_->Prop}(h:∀ a b c d,P [a,b,c,d])(us:List g_)(e:us.length=4):P us:=lsS (k:=3) (λ a us e=>ls3 (P:=λ us=>P (a::us)) (h a) us e) us e
section
variable {K:g9}{h:Heap}{mg:gZ}{n:Str}(X:K.In h)(G:h.Ns mainGlobals mg)
def fnT {s:Stmt}{ps:List Str}{f:Addr}{od an:g6 Addr}{sl:Array (g6 g_)}{oc kV dc pm cd ct:g_}(a:PySem.W.nsIn K mainGlobals n=kb (kb (.ref f)))
  (l:K.lookup f=kb ⟨oc,od,.func (PySem.W.fnOf n n (sq s) (kC s) (il s) .none kV dc pm an cd ct),sl⟩) (c:PySem.W.codeIn K cd n=V0) (k:PySem.W.keepIn K (.ref f)=V0)
  (hb:∀ (kV dc pm:g_) (an:g6 Addr) (cd ct:g_) (us:List g_),us.length=ps.length->bindArgs (PySem.W.fnOf n n (sq s) (kC s) (il s) .none kV dc pm an cd ct) ⟨us,[]⟩=pure (ps.zip us):=by first | exact λ _ _ _ _ _ _=>L2.ls1 λ _=>rfl | exact λ _ _ _ _ _ _=>L2.ls2 λ _ _=>rfl | exact λ _ _ _ _ _ _=>L2.ls3 λ _ _ _=>rfl | exact λ _ _ _ _ _ _=>L2.ls4 λ _ _ _ _=>rfl | exact λ _ _ _ _ _ _=>L2.ls0 rfl):FnT K mg n s ps :=
 ⟨f,_,Pg (st:=s) l c k,eu X G a,hb _ _ _ _ _ _⟩
def ctI {i:Int}{t:Tok}(a:PySem.W.nsIn K mainGlobals n=kb (kb (.int i t))):CtT K mg n (.int i):=⟨_,.int i,eu X G a,⟨_,rfl⟩,λ _=>.int _⟩
def ctP {i j:Int}{q:Addr}{t1 t2:Tok}{m:Nat}{s:Array (g6 g_)}(a:PySem.W.nsIn K mainGlobals n=kb (kb (.ref q)))(u:K.lookup q=kb ⟨.type "tuple",My,.seq #[.int i t1,.int j t2] m,s⟩):CtT K mg n (.tup [.int i,.int j]) :=
 ⟨_,.ref q,eu X G a,rfl,λ H=>Is.tup (xs:=[.int i,.int j]) (.inr ⟨_,_,_,u,⟨rfl,rfl⟩,rfl,by show 2<=sizeLine;decide,.cons ⟨_,rfl⟩ (.cons ⟨_,rfl⟩ .nil)⟩) (.cons (.int _) (.cons (.int _) .nil))⟩
end
open PySem.W Zp PySem.SeqAt Tb
def leP (a b:Nat×Nat):Bool:=!mS b a
def mW (l:hG):hG:=l.mergeSort leP
theorem qK (a b:Nat×Nat):leP a b=V0↔a.1<b.1\/(a.1=b.1/\a.2<=b.2):=by
 unfold leP;have:=mV b a;cases e:mS b a with
 | true=>rw[e]at this;simp at this ⊢;lia
 | false=>rw[e]at this;simp at this ⊢;lia
theorem lh (l:hG):(mW l).Perm l:=List.mergeSort_perm l leP
theorem An (l:hG):(mW l).Pairwise λ a b=>leP a b=V0:=List.pairwise_mergeSort (λ a b c h1 h2=>by rw[qK]at *;lia) (λ a b=>by rw[Bool.or_eq_true,qK,qK];lia) l
theorem Jv {a b:Nat×Nat}(h1:leP a b=V0)(h2:leP b a=V0):a=b:=by rw[qK]at h1 h2;exact gT (by lia) (by lia)
theorem uu {l m:hG}(h:m.Perm l)(hs:m.Pairwise λ a b=>leP a b=V0):m=mW l :=
 (h.trans (lh l).symm).eq_of_pairwise (λ a b _ _ h1 h2=>Jv h1 h2) hs (An l)
section
variable {X:Cx}{pins:hJ}{σ:St}{H:Hp}{s:hE}
def xk:List Dt->g6 Dt:=sJ λ x=>(dTt x).bind λ l=>if l.length<64 then kb (.lst ((mW l).map iq)) else My
theorem Jw (a b:Nat×Nat):pLt ((a.1:Int),(a.2:Int)) ((b.1:Int),(b.2:Int))=mS a b:=by rw[bj,qC,mV];simp;lia
theorem Mo {v:V}{t:Nat×Nat}(i:Is X.K H v (iq t)):∃ b,v=.ref b/\SqT X.K H b [.int t.1,.int t.2]:=by obtain⟨b,xs,rfl,hs,is⟩:=i.iR;obtain⟨u,u',rfl,j0,j1⟩:=is.two;rw[j0.int_inv,j1.int_inv]at hs;exact⟨b,rfl,hs⟩
theorem Mp (I:Inv X pins σ H s){b:Addr}{i j:Int}(h:SqT X.K H b [.int i,.int j]):lZ X.prog X.w s.heap [i,j] b:=by obtain⟨its,r,⟨o,e1,e2,n,e3⟩,_⟩:=I.tuple h;exact⟨o,its.toArray,n,e1,e2,e3,by simpa using rB (k:=[i,j]) r⟩
theorem Qd {ys:List V}{l:hG}(is:Iss X.K H ys (l.map iq)){j:Nat}(hj:j<l.length):∃ v,ys[j]?=kb v/\Is X.K H v (iq (l.getD j (0,0))):=by refine is.get (d:=iq (l.getD j (0,0))) ?_;rw[aD,aA,aH hj];rfl
theorem FD {K:g9}{H:Hp}{α:Type}{f:α->V}{g:α->Dt}:∀ {p:List α},(∀ i∈p,Is K H (f i) (g i))->Iss K H (p.map f) (p.map g)
 | [],_=>.nil
 | i::r,h=>.cons (h i av) (FD λ j hj=>h j (ar _ hj))
theorem GW (hc:X.calm=V0):j3 X (.builtin "sorted") (cD X.K xk):=by
 intro pins s σ H xs us Q I rs hz;obtain⟨ds,d,is,e,q⟩:=hz;obtain⟨x,rfl,e1⟩:=kP e;obtain⟨l,e2,e3⟩:=hZ e1;obtain rfl:=sV e2;clear e e1 e2;by_cases h64:l.length<64
 ·rw[ae h64]at e3
  cases e3;obtain⟨v,rfl,i⟩:=is.one;obtain⟨a,ys,rfl,ha,js⟩:=i.iR;obtain⟨u,rfl,ru⟩:=vals1 rs;cases ru;obtain⟨its,rv,pt,_⟩:=I.tuple ha;obtain⟨o,ho,hcl,nn,hda⟩:=id pt;have hyl:ys.length=l.length:=by rw[js.length,ak]
  have hvl:its.length=l.length:=by rw[<-rv.length,hyl]
  obtain⟨m,hm,_⟩:=id I.loc;have no:∀ b,(Att.j4 s.heap).get? b=My:=λ b=>dO (aZ _);refine Calls.call_function_entry kind_sorted plain_sorted entry_sorted (args_sorted1 _) ?_;unfold Builtin.«sorted»;refine aa (m:=checkCount "sorted" 1 1 _) (ah (aa (wpAny_collect_seq a (.inr rfl) ho hcl hda (λ h1 hk=>?_) (by rw[aC,sizeLine_eq];lia))));have hal:its.toArray.toList.length=l.length:=hvl;have at_j:∀ j,j<l.length->∃ b,its.toArray.toList[j]?=kb (.ref b)/\ys[j]?=kb (.ref b)/\SqT X.K H b [.int (l.getD j (0,0)).1,.int (l.getD j (0,0)).2]:=λ j hj=>by obtain⟨v,e1,i1⟩:=Qd js hj;obtain⟨b,rfl,hs⟩:=Mo i1;obtain⟨u,e2,r2⟩:=rv.get e1;cases r2;exact⟨b,e2,e1,hs⟩
  generalize its.toArray.toList=vs at hal at_j;refine aa (wpAny_newList ?_ (by rw[sizeLine_eq];lia));have hL:X.env.locals<h1.objs.size:=by obtain⟨oL,_,_,ho,_⟩:=hm;exact aw (hk _ _ ho)
  have keep1:∀ b o,s.heap.get? b=kb o->(h1.push {cls:=.type "list",data:=.seq vs.toArray}).get? b=kb o:=λ b o e=>ai _ (hk b o e);have F1:Fr (Att.j4 s.heap) X.env.locals (h1.push {cls:=.type "list",data:=.seq vs.toArray}) m:=⟨hm.at' λ o e=>keep1 _ o e,(λ b o e=>by rw[no]at e;cases e),aZ _⟩;have N1:News (Att.j4 s.heap) X.env.locals (h1.push {cls:=.type "list",data:=.seq vs.toArray}) (mi (Att.j4 s.heap) s.heap X.env.locals):=λ p hp=>let ⟨a,_,c⟩:=lr hp;⟨keep1 _ _ c,a,no _⟩;have hD:(h1.push {cls:=.type "list",data:=.seq vs.toArray}).get? h1.objs.size=kb (listOf vs.toArray 0):=aK _ rfl;have hneD:∀ p∈mi (Att.j4 s.heap) s.heap X.env.locals,p.1≠h1.objs.size:=λ p hp=>let ⟨_,_,c⟩:=lr hp;aU (aw (hk _ _ c));let kI:Nat->Int×Int:=λ i=>(((l.getD i (0,0)).1:Int),((l.getD i (0,0)).2:Int));have fin:∀ (p:List Nat) h2 c tk2,p.Perm (V2 l.length)->(p.map kI).Pairwise (λ a b=>pLt b a=V1)->Fr (Att.j4 s.heap) X.env.locals h2 m->News (Att.j4 s.heap) X.env.locals h2 ((h1.objs.size,listOf (List.toArray (p.map λ i=>vs.getD i Value.none)) c)::mi (Att.j4 s.heap) s.heap X.env.locals) ->
    EP X pins σ Q (.ref h1.objs.size) {s with heap:=h2,toks:=tk2}:=λ p h2 c tk2 hlp hso F2 N2=>by
   have I2:Inv X pins σ H {s with heap:=h2,toks:=tk2}:=I.vN hm F2 λ p hp=>N2 p (ar _ hp);have hn:H h1.objs.size=My:=by
    cases e:H h1.objs.size with
    | none=>rfl
    | some o =>obtain⟨o',ho'⟩:=BA (I.hok _ _ e);exact absurd (aw (hk _ _ ho')) (aX _)
   have hlt:∀ i∈p,i<l.length:=λ i hi=>ay.mp (hlp.mem_iff.mp hi);let bo:Nat->V:=λ i=>ys.getD i .non;have hbo:∀ i,i<l.length->RelV (bo i) (vs.getD i Value.none)/\Is X.K H (bo i) (iq (l.getD i (0,0))):=λ i hi=>by obtain⟨b,b1,b2,b3⟩:=at_j i hi;show RelV (ys.getD i .non) _/\Is X.K H (ys.getD i .non) _;rw[aA,aA,b1,b2];exact⟨rfl,.tup b3 (.cons (.int _) (.cons (.int _) .nil))⟩
   have new:jO X.prog X.w (upd H h1.objs.size (.lst (p.map bo))) h2 h1.objs.size (.lst (p.map bo)) :=
    ⟨by rw[ak,hlp.length_eq,bA,sizeLine_eq];lia,p.map λ i=>vs.getD i Value.none,c,nz p λ i hi=>(hbo i (hlt i hi)).1,(N2 _ av).1⟩
   have I3:Inv X pins σ (upd H h1.objs.size (.lst (p.map bo))) {s with heap:=h2,toks:=tk2}:=I2.zd hn (bg I.ok.above (d8 hL)) (bR hL) (λ x c e z=>by
     obtain⟨v,o,ho,_⟩:=I.cell x c e;exact absurd (aw (hk _ _ ho)) (by rw[z];exact aX _)) (λ p hp z=>by
     exact absurd (aw (hk _ _ (I.pin p hp).1)) (by rw[z];exact aX _)) new
   have pm:(p.map λ i=>l.getD i (0,0)).Perm l:=by have:=hlp.map λ i=>l.getD i (0,0);rw[ly]at this;exact this
   have so:(p.map λ i=>l.getD i (0,0)).Pairwise λ a b=>leP a b=V0:=by rw[bM]at hso ⊢;refine hso.imp λ{i j} h=>?_;unfold leP;rw[<-Jw];have h:pLt (kI j) (kI i)=V1:=h;rw[show pLt (((l.getD j (0,0)).1:Int),((l.getD j (0,0)).2:Int)) (((l.getD i (0,0)).1:Int),((l.getD i (0,0)).2:Int))=V1 from h];rfl
   have eq:=uu pm so;refine⟨.ref h1.objs.size,_,I3,rfl,q _ _ (iA.upd hn) (.lst ir ?_)⟩;rw[<-eq,aR];have sm:iA H (upd H h1.objs.size (.lst (p.map bo))):=iA.upd hn;exact FD λ i hi=>(hbo i (hlt i hi)).2.ext sm
  refine aa (bT ?_);by_cases h2:2<=vs.length
  ·refine wQ (X:=kI) F1 (λ p hp=>?_) hneD h2 (by lia) (λ h' F' N' i v hv=>?_) λ p h' c P So F2 N2=>ah ⟨_,rfl,?_⟩
   ·rcases aG.mp hp with rfl | hp
    ·exact⟨hD,bR hL,no _⟩
    ·exact N1 p hp
   ·have hi:i<l.length:=by
     have:=(a_.mp hv).1;lia
    obtain⟨b,b1,_,b3⟩:=at_j i hi;rw[hv]at b1;cases b1;refine⟨b,rfl,?_⟩;have I2:Inv X pins σ H {s with heap:=h',toks:=s.toks}:=I.vN hm F' N';exact Mp I2 b3
   ·rw[hal]at P So
    refine fin p.toList h' c _ P.2 ?_ F2 N2;rw[bM,cQ];intro i j hi hj hij;have hjs:j<l.length:=by have:=P.size;simp at hj;lia
    have:=So i j (by lia) hjs;unfold KeyOrd.kle Kp at this;have gi:p.getD i 0=p.toList[i]:=by simp[Array.getD,show i<p.size by simpa using hi]
    have gj:p.getD j 0=p.toList[j]:=by simp[Array.getD,show j<p.size by simpa using hj]
    rw[gi,gj]at this;exact this
  ·refine wR hD (by lia) λ h' c kp hc'=>ah ⟨_,rfl,?_⟩
   refine fin (V2 l.length) h' c _ (.refl _) ?_ ⟨F1.ns.at' λ o e=>kp _ o (aU hL) e,(λ b o e=>by rw[no]at e;cases e),aZ _⟩ λ p hp=>?_
   ·have:((V2 l.length).map kI).length<2:=by simp;lia
    match (V2 l.length).map kI,this with
    | [],_=>exact .nil
    | [a],_=>exact e_ _ _
   ·rcases aG.mp hp with rfl | hp
    ·refine⟨?_,bR hL,no _⟩;rw[<-hal,ly];exact hc'
    ·exact⟨kp _ _ (hneD p hp) (N1 p hp).1,(N1 p hp).2⟩
 ·rw[ag h64]at e3;cases e3
end
end L2
namespace Qs
def S (n:Nat)(f:Nat->Nat):Nat:=((V2 n).map f).sum
theorem qb (n:Nat)(f:Nat->Nat):S (n+1) f=S n f+f n:=by unfold S;rw[eg,bp,List.sum_append];simp
theorem vU {n:Nat}{f g:Nat->Nat}(h:∀ i,i<n->f i=g i):S n f=S n g:=by
 induction n with
 | zero=>rfl
 | succ n ih=>rw[qb,qb,ih λ i hi=>h i (by lia),h n (by lia)]
theorem Jx (n:Nat)(f g:Nat->Nat):S n (λ i=>f i+g i)=S n f+S n g:=by
 induction n with
 | zero=>rfl
 | succ n ih=>rw[qb,qb,qb,ih];lia
theorem B_ (n:Nat):S n (λ _=>0)=0:=by
 induction n with
 | zero=>rfl
 | succ n ih=>rw[qb,ih]
theorem N9 {n a:Nat}(h:a<n)(f:Nat->Nat):S n (λ i=>if i=a then f i else 0)=f a:=by
 induction n with
 | zero=>lia
 | succ n ih =>
  rw[qb];by_cases e:a=n
  ·subst e;rw[ae rfl];have:S a (λ i=>if i=a then f i else 0)=0:=(vU (g:=λ _=>0) λ i hi=>ag (by lia)).trans (B_ a);rw[this];lia
  ·rw[ih (by lia),ag (aY e)];rfl
section
variable (n:Nat)(A:Nat->Nat->Nat)(wt:Nat->Nat)
end
end Qs
namespace Dt0
def exs (v:Nat->Rat)(D:List Nat->Rat):List Nat->List Nat->List Nat->Rat
 | _,[],_=>0
 | q,c::l,s=>v c*D (q++l++s)-exs v D (q++[c]) l s
def sg:List Nat->Rat
 | []=>1
 | _::l=>- sg l
theorem Ao (v:Nat->Rat)(D:List Nat->Rat)(l2 s:List Nat):∀ (l1 q:List Nat),exs v D q (l1++l2) s=exs v D q l1 (l2++s)+sg l1*exs v D (q++l1) l2 s
 | [],q=>by simp[exs,sg];grind
 | c::l1,q=>by
  show v c*D (q++(l1++l2)++s)-exs v D (q++[c]) (l1++l2) s=v c*D (q++l1++(l2++s))-exs v D (q++[c]) l1 (l2++s)+- sg l1*exs v D (q++c::l1) l2 s;rw[Ao v D l2 s l1 (q++[c])];have e1:q++(l1++l2)++s=q++l1++(l2++s):=by simp
  have e2:q++[c]++l1=q++c::l1:=by simp
  rw[e1,e2];grind
theorem FE (a b:Rat)(u v:Nat->Rat)(D:List Nat->Rat)(s:List Nat):∀ (l q:List Nat),exs (λ j=>a*u j+b*v j) D q l s=a*exs u D q l s+b*exs v D q l s
 | [],q=>by simp[exs];grind
 | c::l,q=>by show(a*u c+b*v c)*_-exs _ D (q++[c]) l s=a*(u c*_-exs u D (q++[c]) l s)+b*(v c*_-exs v D (q++[c]) l s);rw[FE a b u v D s l (q++[c])];grind
theorem N_ (v:Nat->Rat)(a b:Rat)(D D':List Nat->Rat)(s:List Nat):∀ (l q:List Nat),exs v (λ ds=>a*D ds+b*D' ds) q l s=a*exs v D q l s+b*exs v D' q l s
 | [],q=>by simp[exs];grind
 | c::l,q=>by show v c*_-exs v _ (q++[c]) l s=a*(v c*_-exs v D (q++[c]) l s)+b*(v c*_-exs v D' (q++[c]) l s);rw[N_ v a b D D' s l (q++[c])];grind
theorem Aq (v:Nat->Rat)(D:List Nat->Rat)(t s:List Nat):∀ (l q:List Nat),exs v (λ ds=>D (ds++t)) q l s=exs v D q l (s++t)
 | [],q=>rfl
 | c::l,q=>by show v c*D (q++l++s++t)-exs v _ (q++[c]) l s=v c*D (q++l++(s++t))-exs v D (q++[c]) l (s++t);rw[Aq v D t s l (q++[c])];simp
theorem uv (v:Nat->Rat)(s:List Nat):∀ (l q:List Nat),exs v (λ _=>0) q l s=0
 | [],q=>rfl
 | c::l,q=>by show v c*0-exs v _ (q++[c]) l s=0;rw[uv v s l (q++[c])];grind
def sS (v u:Nat->Rat)(D:List Nat->Rat):List Nat->List Nat->Rat
 | _,[]=>0
 | pre,c::cs=>sg pre*(v c*exs u D pre cs []-u c*exs v D pre cs [])-sS v u D (pre++[c]) cs
theorem FF (v u:Nat->Rat)(D:List Nat->Rat):∀ (cs pre:List Nat),sS v u D pre cs=- sS u v D pre cs
 | [],pre=>by simp[sS]
 | c::cs,pre=>by show sg pre*(v c*exs u D pre cs []-u c*exs v D pre cs [])-sS v u D (pre++[c]) cs=- (sg pre*(u c*exs v D pre cs []-v c*exs u D pre cs [])-sS u v D (pre++[c]) cs);rw[FF v u D cs (pre++[c])];grind
theorem xl (v u:Nat->Rat)(D:List Nat->Rat):∀ (cs pre:List Nat),exs v (λ ds=>exs u D [] ds []) pre cs []=sS v u D pre cs+exs u (λ ds=>exs v D ds cs []) [] pre []
 | [],pre=>by show(0:Rat)=0+exs u (λ ds=>0) [] pre [];rw[uv];grind
 | c::cs,pre=>by
  show v c*exs u D [] (pre++cs++[]) []-exs v (λ ds=>exs u D [] ds []) (pre++[c]) cs []=sg pre*(v c*exs u D pre cs []-u c*exs v D pre cs [])-sS v u D (pre++[c]) cs+exs u (λ ds=>v c*D (ds++cs++[])-exs v D (ds++[c]) cs []) [] pre [];rw[xl v u D cs (pre++[c]),Ao u (λ ds=>exs v D ds cs []) [c] [] pre []];have h1:=Ao u D cs [] pre [];have h2:exs u (λ ds=>v c*D (ds++cs++[])-exs v D (ds++[c]) cs []) [] pre []=v c*exs u D [] pre cs-exs u (λ ds=>exs v D ds cs []) [] pre [c]:=by
   have:=N_ u (v c) (-1) (λ ds=>D (ds++cs)) (λ ds=>exs v D (ds++[c]) cs []) [] pre [];have e:(λ ds=>v c*D (ds++cs++[])-exs v D (ds++[c]) cs [])=λ ds=>v c*D (ds++cs)+-1*exs v D (ds++[c]) cs []:=by funext ds;rw[bH];grind
   rw[e,this,Aq u D cs [] pre [],Aq u (λ ds=>exs v D ds cs []) [c] [] pre []];simp only[gM];grind
  rw[h2];simp only[bH,gM]at *;rw[h1];have e3:exs u (λ ds=>exs v D ds cs []) pre [c] []=u c*exs v D pre cs []-0:=by show u c*exs v D (pre++[]++[]) cs []-0=_;simp
  rw[e3];grind
def dt:List (Nat->Rat)->List Nat->Rat
 | [],_=>1
 | v::R,cs=>exs v (dt R) [] cs []
theorem FG (v u:Nat->Rat)(R:List (Nat->Rat))(cs:List Nat):dt (v::u::R) cs=- dt (u::v::R) cs:=by show exs v (λ ds=>exs u (dt R) [] ds []) [] cs []=- exs u (λ ds=>exs v (dt R) [] ds []) [] cs [];rw[xl v u (dt R) cs [],xl u v (dt R) cs [],FF];show-sS u v (dt R) [] cs+0=- (sS u v (dt R) [] cs+0);grind
theorem Oa (v:Nat->Rat):∀ (R:List (Nat->Rat)) (cs:List Nat),v∈R->dt (v::R) cs=0
 | [],_,h=>by cases h
 | u::R,cs,h=>by
  by_cases e:v=u
  ·subst e;have:=FG v v R cs;grind
  ·have hm:v∈R:=(aG.mp h).elim (λ z=>absurd z e) id
   rw[FG];show-exs u (λ ds=>dt (v::R) ds) [] cs []=0;have:(λ ds=>dt (v::R) ds)=λ _=>(0:Rat):=by funext ds;exact Oa v R ds hm
   rw[this,uv];grind
theorem Jy (a b:Rat)(u v:Nat->Rat)(R:List (Nat->Rat))(cs:List Nat):dt ((λ j=>a*u j+b*v j)::R) cs=a*dt (u::R) cs+b*dt (v::R) cs:=FE a b u v (dt R) [] cs []
def IsZ (x:Rat):Prop:=∃ z:Int,x=z
theorem IsZ.mul {x y:Rat}(h:IsZ x)(h':IsZ y):IsZ (x*y):=by obtain⟨a,rfl⟩:=h;obtain⟨b,rfl⟩:=h';exact⟨a*b,by rw[eh]⟩
theorem IsZ.sub {x y:Rat}(h:IsZ x)(h':IsZ y):IsZ (x-y):=by obtain⟨a,rfl⟩:=h;obtain⟨b,rfl⟩:=h';exact⟨a-b,by rw[fQ]⟩
theorem FH {v:Nat->Rat}{D:List Nat->Rat}(hv:∀ j,IsZ (v j))(hD:∀ ds,IsZ (D ds))(s:List Nat):∀ (l q:List Nat),IsZ (exs v D q l s)
 | [],q=>⟨0,rfl⟩
 | c::l,q=>((hv c).mul (hD _)).sub (FH hv hD s l (q++[c]))
theorem DW:∀ (R:List (Nat->Rat)) (cs:List Nat),(∀ v∈R,∀ j,IsZ (v j))->IsZ (dt R cs)
 | [],_,_=>⟨1,rfl⟩
 | v::R,cs,h=>FH (h v av) (λ ds=>DW R ds λ u hu=>h u (ar _ hu)) [] cs []
theorem Ar {v:Nat->Rat}{D:List Nat->Rat}{s:List Nat}:∀ (l q:List Nat),(∀ c∈l,v c=0)->exs v D q l s=0
 | [],q,_=>rfl
 | c::l,q,h=>by show v c*_-exs v D (q++[c]) l s=0;rw[h c av,Ar l (q++[c]) λ d hd=>h d (ar _ hd)];grind
theorem uw {v:Nat->Rat}{R:List (Nat->Rat)}{j:Nat}{cs:List Nat}(h:∀ c∈cs,v c=0):dt (v::R) (j::cs)=v j*dt R cs:=by show v j*dt R ([]++cs++[])-exs v (dt R) ([]++[j]) cs []=_;rw[Ar cs _ h];simp;grind
end Dt0
namespace Dt0
def sm:Nat->(Nat->Rat)->Rat
 | 0,_=>0
 | n+1,f=>sm n f+f n
theorem qc (a b:Rat)(f g:Nat->Rat):∀ n,sm n (λ r=>a*f r+b*g r)=a*sm n f+b*sm n g
 | 0=>by simp[sm];grind
 | n+1=>by show sm n _+_=a*(sm n f+f n)+b*(sm n g+g n);rw[qc a b f g n];grind
theorem jT {f g:Nat->Rat}:∀ {n:Nat},(∀ r,r<n->f r=g r)->sm n f=sm n g
 | 0,_=>rfl
 | n+1,h=>by show sm n f+f n=sm n g+g n;rw[jT λ r hr=>h r (by lia),h n (by lia)]
theorem qL:∀ n,sm n (λ _=>0)=0
 | 0=>rfl
 | n+1=>by show sm n _+0=0;rw[qL n];grind
theorem Jz (a:Rat)(f:Nat->Rat)(n:Nat):sm n (λ r=>a*f r)=a*sm n f:=by
 have:=qc a 0 f (λ _=>0) n;have e:(λ r=>a*f r+0*(λ _=>(0:Rat)) r)=λ r=>a*f r:=by funext r;grind
 rw[e]at this;rw[this];grind
theorem FI (F:Nat->Nat->Rat)(m:Nat):∀ n,sm n (λ i=>sm m (λ j=>F i j))=sm m (λ j=>sm n (λ i=>F i j))
 | 0=>by show(0:Rat)=sm m (λ j=>0);rw[qL]
 | n+1=>by
  show sm n _+sm m (λ j=>F n j)=sm m (λ j=>sm n (λ i=>F i j)+F n j);rw[FI F m n];have:=qc 1 1 (λ j=>sm n (λ i=>F i j)) (λ j=>F n j) m;have e:(λ j=>1*sm n (λ i=>F i j)+1*F n j)=λ j=>sm n (λ i=>F i j)+F n j:=by funext r;grind
  rw[e]at this;rw[this];grind
theorem qe {f:Nat->Rat}{i:Nat}:∀ {n:Nat},i<n->(∀ r,r<n->r≠i->f r=0)->sm n f=f i
 | 0,h,_=>by lia
 | n+1,h,hz=>by
  show sm n f+f n=f i;by_cases e:i=n
  ·subst e;have:sm i f=sm i (λ _=>0):=jT λ r hr=>hz r (by lia) (by lia);rw[this,qL];grind
  ·rw[qe (n:=n) (by lia) λ r hr ne=>hz r (by lia) ne,hz n (by lia) (by lia)];grind
section
variable (A:Nat->Nat->Rat)
def rd:Nat->Nat->Nat->Rat
 | 0=>A
 | k+1=>λ i j=>if i=k then rd k k j / rd k k k else rd k i j-rd k i k*(rd k k j / rd k k k)
def Rw:Nat->List (Nat->Rat)
 | 0=>[]
 | k+1=>A k::Rw k
def Ck:Nat->List Nat
 | 0=>[]
 | k+1=>k::Ck k
def Sp (k:Nat)(f:Nat->Rat):Prop:=∃ c:Nat->Rat,∀ j,f j=sm k (λ r=>c r*A r j)
def Dk (k:Nat):Rat:=dt (Rw A k) (Ck k)
variable {A}
theorem xm:∀ {k c:Nat},c∈Ck k->c<k
 | 0,c,h=>by cases h
 | k+1,c,h=>(aG.mp h).elim (λ e=>by lia) λ h=>by have:=xm h;lia
theorem JA:∀ {k r:Nat},r<k->A r∈Rw A k
 | 0,r,h=>by lia
 | k+1,r,h=>by
  by_cases e:r=k
  ·subst e;exact av
  ·exact ar _ (JA (by lia))
theorem Sp.lin {k:Nat}{f g:Nat->Rat}(a b:Rat)(h:Sp A k f)(h':Sp A k g):Sp A k (λ j=>a*f j+b*g j):=by obtain⟨c,hc⟩:=h;obtain⟨d,hd⟩:=h';refine⟨λ r=>a*c r+b*d r,λ j=>?_⟩;show a*f j+b*g j=sm k (λ r=>(a*c r+b*d r)*A r j);rw[hc,hd,<-qc];exact jT λ r _=>by grind
theorem Sp.up {k:Nat}{f:Nat->Rat}(h:Sp A k f):Sp A (k+1) f:=by
 obtain⟨c,hc⟩:=h;refine⟨λ r=>if r=k then 0 else c r,λ j=>?_⟩;show f j=sm k _+(if k=k then 0 else c k)*A k j;rw[ae rfl,hc];have:sm k (λ r=>c r*A r j)=sm k (λ r=>(if r=k then 0 else c r)*A r j):=jT λ r hr=>by rw[ag (by lia)]
 rw[this];grind
theorem Sp.self (k:Nat):Sp A (k+1) (A k):=by
 refine⟨λ r=>if r=k then 1 else 0,λ j=>?_⟩;show A k j=sm k _+(if k=k then 1 else 0)*A k j;have:sm k (λ r=>(if r=k then (1:Rat) else 0)*A r j)=sm k (λ _=>0):=jT λ r hr=>by rw[ag (by lia)];grind
 rw[ae rfl,this,qL];grind
theorem Sp.DX {k:Nat}{f g:Nat->Rat}(h:Sp A k f)(e:∀ j,g j=f j):Sp A k g:=by obtain⟨c,hc⟩:=h;exact⟨c,λ j=>(e j).trans (hc j)⟩
theorem JB (c:Nat->Rat)(R:List (Nat->Rat))(cs:List Nat):∀ (m:Nat),(∀ r,r<m->A r∈R)->dt ((λ j=>sm m (λ r=>c r*A r j))::R) cs=0
 | 0,_=>Ar cs [] λ _ _=>rfl
 | m+1,h=>by
  have e:(λ j=>sm (m+1) (λ r=>c r*A r j))=λ j=>1*sm m (λ r=>c r*A r j)+c m*A m j:=by funext j;show sm m _+c m*A m j=_;grind
  rw[e,Jy,JB c R cs m λ r hr=>h r (by lia),Oa (A m) R cs (h m (by lia))];grind
theorem Sp.dt {k:Nat}{f:Nat->Rat}(h:Sp A k f)(cs:List Nat):Dt0.dt (f::Rw A k) cs=0:=by obtain⟨c,hc⟩:=h;have e:f=λ j=>sm k (λ r=>c r*A r j):=funext hc;rw[e];exact JB c _ cs k λ r hr=>JA hr
theorem xn {k:Nat}{v w:Nat->Rat}(h:Sp A k (λ j=>v j-w j))(cs:List Nat):Dt0.dt (v::Rw A k) cs=Dt0.dt (w::Rw A k) cs:=by
 have e:v=λ j=>1*w j+1*(v j-w j):=by funext j;grind
 have:=Jy 1 1 w (λ j=>v j-w j) (Rw A k) cs;rw[<-e,h.dt]at this;rw[this];grind
structure Eli (A:Nat->Nat->Rat)(k:Nat):Prop where
 z:∀ i c,k<=i->c<k->rd A k i c=0
 o:∀ i c,i<k->c<k->rd A k i c=if i=c then 1 else 0
 s:∀ i,k<=i->Sp A k (λ j=>A i j-rd A k i j)
 t:∀ i,i<k->Sp A k (rd A k i)
theorem JC {k:Nat}(e:Eli A k)(p:rd A k k k≠0):Eli A (k+1):=by
 have pp:rd A k k k / rd A k k k=1:=by grind
 have self:∀ j,rd A (k+1) k j=rd A k k j / rd A k k k:=λ j=>by show(if k=k then _ else _)=_;rw[ae rfl]
 have other:∀ i j,i≠k->rd A (k+1) i j=rd A k i j-rd A k i k*(rd A k k j / rd A k k k):=λ i j h=>by show(if i=k then _ else _)=_;rw[ag h]
 have own:Sp A (k+1) (rd A k k):=by have:=Sp.lin 1 (-1) (Sp.self k) (e.s k (aq _)).up;exact this.DX λ j=>by grind
 refine⟨λ i c hi hc=>?_,λ i c hi hc=>?_,λ i hi=>?_,λ i hi=>?_⟩
 ·rw[other i c (by lia)]
  by_cases ck:c=k
  ·subst ck;rw[pp];grind
  ·rw[e.z i c (by lia) (by lia),e.z k c (aq _) (by lia)];grind
 ·by_cases ik:i=k
  ·subst ik
   rw[self];by_cases ck:c=i
   ·subst ck;rw[pp,ae rfl]
   ·rw[e.z i c (aq _) (by lia),ag (by lia)];grind
  ·rw[other i c ik]
   by_cases ck:c=k
   ·subst ck;rw[pp,ag (by lia)];grind
   ·rw[e.o i c (by lia) (by lia),e.z k c (aq _) (by lia)];grind
 ·have:=Sp.lin 1 (rd A k i k / rd A k k k) (e.s i (by lia)).up own;exact this.DX λ j=>by rw[other i j (by lia)];grind
 ·by_cases ik:i=k
  ·subst ik;have:=Sp.lin (1 / rd A i i i) 0 own own;exact this.DX λ j=>by rw[self];grind
  ·have:=Sp.lin 1 (-(rd A k i k / rd A k k k)) (e.t i (by lia)).up own;exact this.DX λ j=>by rw[other i j ik];grind
theorem JD:Eli A 0:=⟨λ i c _ h=>by lia,λ i c h _=>by lia,λ i _=>⟨λ _=>0,λ j=>by show A i j-A i j=0;grind⟩,λ i h=>by lia⟩
theorem eli {n:Nat}(p:∀ k,k<n->rd A k k k≠0):∀ k,k<=n->Eli A k
 | 0,_=>JD
 | k+1,h=>JC (eli p k (by lia)) (p k (by lia))
theorem FJ {k:Nat}(e:Eli A k):Dk A (k+1)=rd A k k k*Dk A k:=by show Dt0.dt (A k::Rw A k) (k::Ck k)=_;rw[xn (e.s k (aq _))];exact uw λ c hc=>e.z k c (aq _) (xm hc)
theorem Qf (hz:∀ i j,IsZ (A i j))(k:Nat):IsZ (Dk A k):=DW _ _ λ v hv=>by
 have:∀ k,v∈Rw A k->∃ r,v=A r:=λ k=>by
  induction k with
  | zero=>intro h;cases h
  | succ k ih=>intro h;exact(aG.mp h).elim (λ e=>⟨k,e⟩) ih
 obtain⟨r,rfl⟩:=this k hv;exact hz r
theorem Ca (hz:∀ i j,IsZ (A i j))(k:Nat){v:Nat->Rat}(hv:∀ j,IsZ (v j))(cs:List Nat):IsZ (Dt0.dt (v::Rw A k) cs):=by
 refine DW _ _ λ u hu=>?_;rcases aG.mp hu with rfl | hu
 ·exact hv
 ·have:∀ k,u∈Rw A k->∃ r,u=A r:=λ k=>by
   induction k with
   | zero=>intro h;cases h
   | succ k ih=>intro h;exact(aG.mp h).elim (λ e=>⟨k,e⟩) ih
  obtain⟨r,rfl⟩:=this k hu;exact hz r
theorem Mq (hz:∀ i j,IsZ (A i j)){k:Nat}(e:Eli A k)(i j:Nat):IsZ (rd A k i j*Dk A k):=by
 by_cases hi:k<=i
 ·have h:=Ca hz k (hz i) (j::Ck k);rw[xn (e.s i hi),uw λ c hc=>e.z i c hi (xm hc)]at h;exact h
 ·have hi:i<k:=by lia
  have hv:∀ j:Nat,IsZ ((λ j=>if j=i then (1:Rat) else 0) j):=λ j=>by
   show IsZ (if j=i then 1 else 0);split
   ·exact⟨1,rfl⟩
   ·exact⟨0,rfl⟩
  have h:=Ca hz k hv (j::Ck k);have sp:Sp A k (λ j=>(λ j=>if j=i then (1:Rat) else 0) j-((λ j=>if j=i then (1:Rat) else 0) j-rd A k i j)):=(e.t i hi).DX λ j=>by grind
  rw[xn (w:=λ j=>(if j=i then (1:Rat) else 0)-rd A k i j) sp,uw λ c hc=>by
   rw[e.o i c hi (xm hc)];by_cases q:c=i
   ·rw[ae q,ae q.symm];grind
   ·rw[ag q,ag (aY q)];grind]at h
  have h2:=((hv j).mul (Qf hz k)).sub h;have e3:(λ j=>if j=i then (1:Rat) else 0) j*Dk A k-((if j=i then 1 else 0)-rd A k i j)*Dt0.dt (Rw A k) (Ck k)=rd A k i j*Dk A k:=by show _-((if j=i then 1 else 0)-rd A k i j)*Dk A k=_;grind
  rw[e3]at h2;exact h2
end
end Dt0
namespace Dt0
section
variable (a:Nat->Nat->Int)
def qA:Nat->Nat->Rat:=λ i j=>(a i j:Rat)
mutual
def Tz:Nat->Nat->Nat->Int
 | 0=>a
 | k+1=>λ i j=>if i=k then Tz k i j else (Tz k k k*Tz k i j-Tz k i k*Tz k k j) / fm k
def fm:Nat->Int
 | 0=>1
 | k+1=>Tz k k k
end
variable {a}
theorem cast_inj {x y:Int}(h:(x:Rat)=(y:Rat)):x=y:=Rat.intCast_inj.mp h
theorem zr {n:Nat}(p:∀ k,k<n->rd (qA a) k k k≠0):∀ k,k<=n->(∀ i j,(Tz a k i j:Rat)=rd (qA a) k i j*Dk (qA a) k)/\(fm a k:Rat)=Dk (qA a) k/\Dk (qA a) k≠0
 | 0,_=>⟨λ i j=>by show(a i j:Rat)=(a i j:Rat)*1;grind,rfl,by show(1:Rat)≠0;decide⟩
 | k+1,h=>by
  obtain⟨h1,h2,h3⟩:=zr p k (by lia);have ek:=eli p k (by lia);have ds:=FJ ek;have pk:=p k (by lia);have d1:Dk (qA a) (k+1)≠0:=by rw[ds];grind
  refine⟨λ i j=>?_,by show(Tz a k k k:Rat)=_;rw[h1,ds],d1⟩;by_cases hi:i=k
  ·subst hi;show((if i=i then Tz a i i j else _:Int):Rat)=(if i=i then rd (qA a) i i j / rd (qA a) i i i else _)*_;rw[ae rfl,ae rfl,h1,ds];grind
  ·show((if i=k then _ else (Tz a k k k*Tz a k i j-Tz a k i k*Tz a k k j) / fm a k:Int):Rat)=_
   rw[ag hi];obtain⟨z,hz⟩:=Mq (A:=qA a) (λ i j=>⟨a i j,rfl⟩) (eli p (k+1) h) i j;have hr:rd (qA a) (k+1) i j=rd (qA a) k i j-rd (qA a) k i k*(rd (qA a) k k j / rd (qA a) k k k):=by show(if i=k then _ else _)=_;rw[ag hi]
   have num:Tz a k k k*Tz a k i j-Tz a k i k*Tz a k k j=fm a k*z:=by apply cast_inj;rw[fQ,eh,eh,eh,h1,h1,h1,h1,h2,<-hz,hr,ds];grind
   have fz:fm a k≠0:=λ q=>by rw[q]at h2;exact h3 h2.symm
   rw[num,Int.mul_ediv_cancel_left _ fz,hz]
theorem JE {n:Nat}(p:∀ k,k<n->rd (qA a) k k k≠0){i:Nat}(hi:i<n):sm n (λ j=>(a i j:Rat)*rd (qA a) n j n)=(a i n:Rat):=by
 have e:=eli p n (aq _);have dn:=(zr p n (aq _)).2.2;have spS:∀ m,m<=n->Sp (qA a) n (λ c=>sm m (λ j=>qA a i j*rd (qA a) n j c)):=λ m=>by
  induction m with
  | zero=>intro _;exact⟨λ _=>0,λ c=>by
    show(0:Rat)=sm n (λ r=>0*qA a r c);have:sm n (λ r=>0*qA a r c)=sm n (λ _=>0):=jT λ r _=>by grind
    rw[this,qL]⟩
  | succ m ih =>intro hm;exact(Sp.lin 1 (qA a i m) (ih (by lia)) (e.t m (by lia))).DX λ c=>by show sm m _+qA a i m*rd (qA a) n m c=_;grind
 have spA:Sp (qA a) n (qA a i):=by
  have:∀ m,i<m->Sp (qA a) m (qA a i):=λ m=>by
   induction m with
   | zero=>intro h;lia
   | succ m ih =>
    intro h;by_cases q:i=m
    ·subst q;exact Sp.self i
    ·exact(ih (by lia)).up
  exact this n hi
 have sp:=Sp.lin 1 (-1) spA (spS n (aq _));have zero:∀ c∈Ck n,(λ c=>1*qA a i c+-1*sm n (λ j=>qA a i j*rd (qA a) n j c)) c=0:=λ c hc=>by
  have hc:=xm hc;have:sm n (λ j=>qA a i j*rd (qA a) n j c)=qA a i c*rd (qA a) n c c:=qe (i:=c) hc λ r hr ne=>by rw[e.o r c hr hc,ag ne];grind
  show 1*qA a i c+-1*sm n (λ j=>qA a i j*rd (qA a) n j c)=0;rw[this,e.o c c hc hc,ae rfl];grind
 have d:=sp.dt (n::Ck n);rw[uw zero]at d;have d:(1*qA a i n+-1*sm n (λ j=>qA a i j*rd (qA a) n j n))*Dk (qA a) n=0:=d;have:1*qA a i n+-1*sm n (λ j=>qA a i j*rd (qA a) n j n)=0:=by
  rcases gQ.mp d with h | h
  ·exact h
  ·exact absurd h dn
 show sm n (λ j=>qA a i j*rd (qA a) n j n)=qA a i n;grind
theorem only {n:Nat}(p:∀ k,k<n->rd (qA a) k k k≠0){y:Nat->Rat}(hy:∀ i,i<n->sm n (λ j=>(a i j:Rat)*y j)=(a i n:Rat)){i:Nat}(hi:i<n):y i=rd (qA a) n i n:=by
 have e:=eli p n (aq _);obtain⟨c,hc⟩:=e.t i hi;have h1:sm n (λ j=>rd (qA a) n i j*y j)=y i:=by
  have:=qe (f:=λ j=>rd (qA a) n i j*y j) hi λ r hr ne=>by rw[e.o i r hi hr,ag (aY ne)];grind
  rw[this,e.o i i hi hi,ae rfl];grind
 have h2:sm n (λ j=>rd (qA a) n i j*y j)=sm n (λ r=>c r*(a r n:Rat)):=by
  have:sm n (λ j=>rd (qA a) n i j*y j)=sm n (λ j=>sm n (λ r=>c r*qA a r j*y j)):=jT λ j _=>by
   have e2:(λ r=>c r*qA a r j*y j)=λ r=>y j*(c r*qA a r j):=by funext r;grind
   rw[hc,e2,Jz];grind
  rw[this,FI];exact jT λ r hr=>by
   have e2:(λ i=>c r*qA a r i*y i)=λ i=>c r*((a r i:Rat)*y i):=by funext i;show _=c r*(qA a r i*y i);grind
   rw[e2,Jz,hy r hr]
 rw[<-h1,h2,hc];rfl
end
end Dt0
namespace Dt0
def sT (n:Nat)(S:Nat->Bool)(f:Nat->Rat):Rat:=sm n (λ j=>if S j=V0 then f j else 0)
theorem Qg (n:Nat)(S:Nat->Bool)(a b:Rat)(f g:Nat->Rat):sT n S (λ j=>a*f j+b*g j)=a*sT n S f+b*sT n S g:=by unfold sT;rw[<-qc];exact jT λ j _=>by split<;>grind
theorem DY {n k:Nat}{S:Nat->Bool}(hk:k<n)(hS:S k=V1)(f:Nat->Rat):sT n (λ j=>S j || j==k) f=sT n S f+f k:=by
 unfold sT;have h:=qc 1 1 (λ j=>if S j=V0 then f j else 0) (λ j=>if j=k then f j else 0) n;have e1:sm n (λ j=>if j=k then f j else 0)=f k:=by have:=qe (f:=λ j=>if j=k then f j else 0) hk λ r _ ne=>ag ne;rw[this,ae rfl]
 rw[e1]at h;have e2:sm n (λ j=>if (S j || j==k)=V0 then f j else 0)=sm n (λ j=>1*(if S j=V0 then f j else 0)+1*(if j=k then f j else 0)):=jT λ j _=>by
  by_cases c:j=k
  ·subst c;simp[hS];grind
  ·have:(j==k)=V1:=by simpa using c
   rw[this,Bool.or_false,ag c];grind
 rw[e2,h];grind
theorem Mr {n k:Nat}(hk:k<n)(f:Nat->Rat):sT n (λ j=>j==k) f=f k:=by
 unfold sT;have:=qe (f:=λ j=>if (j==k)=V0 then f j else 0) hk λ r _ ne=>by rw[ag (by simpa using ne)]
 rw[this];simp
structure MM (A:Nat->Nat->Rat)(n k:Nat):Prop where
 off:∀ i j,k<=i->i<n->k<=j->j<n->i≠j->rd A k i j<=0
 sub:∀ (S:Nat->Bool) i,(∀ j,S j=V0->k<=j/\j<n)->S i=V0->0<=sT n S (rd A k i)
 con:∀ (S:Nat->Bool),(∀ j,S j=V0->k<=j/\j<n)->(∃ i,S i=V0)->∃ i,S i=V0/\0<sT n S (rd A k i)
section
variable {A:Nat->Nat->Rat}{n k:Nat}
theorem MM.piv (m:MM A n k)(hk:k<n):0<rd A k k k:=by
 obtain⟨i,hi,h⟩:=m.con (λ j=>j==k) (λ j hj=>by have e:j=k:=(by simpa using hj);lia) ⟨k,by simp⟩;have:i=k:=by simpa using hi
 subst this;rw[Mr hk]at h;exact h
theorem mX {a b:Rat}(ha:0<=a)(hb:0<=b):0<=a*b:=gW ha hb
theorem U1 {s t q p w:Rat}(hpw:p*w=1)(h:0<=-t*((q+p)*w)):s+t<=s-t*(q*w):=by
 have e:-t*((q+p)*w)=-(t*(q*w))-t:=by grind
 rw[e]at h;generalize t*(q*w)=x at *;grind
theorem U2 {s t q p w:Rat}(hpw:p*w=1)(h:0 < -t*((q+p)*w))(h3:0<=s+t):0<s-t*(q*w):=by
 have e:-t*((q+p)*w)=-(t*(q*w))-t:=by grind
 rw[e]at h;generalize t*(q*w)=x at *;grind
theorem U3 {r t q w:Rat}(h1:r<=0)(h:0<=-t*(-q*w)):r-t*(q*w)<=0:=by
 have e:-t*(-q*w)=t*(q*w):=by grind
 rw[e]at h;generalize t*(q*w)=x at *;grind
theorem MM.step (m:MM A n k)(hk:k<n):MM A n (k+1):=by
 have pp:=m.piv hk;have hw:0<(rd A k k k)⁻¹:=Rat.inv_pos.mpr pp;have hpw:rd A k k k*(rd A k k k)⁻¹=1:=cT _ (by grind);have other:∀ i j,i≠k->rd A (k+1) i j=rd A k i j-rd A k i k*(rd A k k j*(rd A k k k)⁻¹):=λ i j h=>by show(if i=k then _ else _)=_;rw[ag h,gX]
 have key:∀ (S:Nat->Bool) i,(∀ j,S j=V0->k+1<=j/\j<n)->S i=V0 ->
   sT n S (rd A (k+1) i)=sT n S (rd A k i)-rd A k i k*(sT n S (rd A k k)*(rd A k k k)⁻¹)/\rd A k i k<=0/\0<=sT n S (rd A k i)+rd A k i k/\0<=sT n S (rd A k k)+rd A k k k:=λ S i hS hi=>by
  have ik:=hS i hi;have nk:S k=V1:=by
   cases q:S k with
   | false=>rfl
   | true=>have:=hS k q;lia
  have hS':∀ j,(S j || j==k)=V0->k<=j/\j<n:=λ j hj=>by
   rcases fS.mp hj with z | z
   ·have:=hS j z;lia
   ·have:j=k:=by simpa using z
    lia
  refine⟨?_,m.off i k (by lia) ik.2 (aq _) hk (by lia),?_,?_⟩
  ·have h:=Qg n S 1 (-(rd A k i k*(rd A k k k)⁻¹)) (rd A k i) (rd A k k)
   have e:rd A (k+1) i=λ j=>1*rd A k i j+-(rd A k i k*(rd A k k k)⁻¹)*rd A k k j:=by funext j;rw[other i j (by lia)];grind
   rw[e,h];grind
  ·have h:=m.sub (λ j=>S j || j==k) i hS' (by rw[hi];rfl);rw[DY hk nk]at h;exact h
  ·have h:=m.sub (λ j=>S j || j==k) k hS' (by simp);rw[DY hk nk]at h;exact h
 have low:∀ (S:Nat->Bool) i,(∀ j,S j=V0->k+1<=j/\j<n)->S i=V0->sT n S (rd A k i)+rd A k i k<=sT n S (rd A (k+1) i):=λ S i hS hi=>by obtain⟨h1,h2,h3,h4⟩:=key S i hS hi;rw[h1];exact U1 hpw (mX (a:=-(rd A k i k)) (b:=(sT n S (rd A k k)+rd A k k k)*(rd A k k k)⁻¹) (by grind) (mX h4 (by grind)))
 refine⟨λ i j hi hin hj hjn ne=>?_,λ S i hS hi=>?_,λ S hS hne=>?_⟩
 ·rw[other i j (by lia)];have h1:=m.off i j (by lia) hin (by lia) hjn ne;have h2:=m.off i k (by lia) hin (aq _) hk (by lia);have h3:=m.off k j (aq _) hk (by lia) hjn (by lia);exact U3 h1 (mX (a:=-(rd A k i k)) (b:=-(rd A k k j)*(rd A k k k)⁻¹) (by grind) (mX (by grind) (by grind)))
 ·obtain⟨h1,h2,h3,h4⟩:=key S i hS hi;have:=low S i hS hi;grind
 ·obtain⟨i0,hi0⟩:=hne
  have nk:S k=V1:=by
   cases q:S k with
   | false=>rfl
   | true=>have:=hS k q;lia
  have hS':∀ j,(S j || j==k)=V0->k<=j/\j<n:=λ j hj=>by
   rcases fS.mp hj with z | z
   ·have:=hS j z;lia
   ·have:j=k:=by simpa using z
    lia
  obtain⟨i,hi,pos⟩:=m.con (λ j=>S j || j==k) hS' ⟨k,by simp⟩;rw[DY hk nk]at pos;rcases fS.mp hi with z | z
  ·exact⟨i,z,by have:=low S i hS z;grind⟩
  ·have:i=k:=by simpa using z
   subst this;by_cases ex:∃ i',S i'=V0/\rd A i i' i<0
   ·obtain⟨i',hi',neg⟩:=ex;obtain⟨h1,h2,h3,h4⟩:=key S i' hS hi';refine⟨i',hi',?_⟩;rw[h1];exact U2 hpw (Rat.mul_pos (a:=-(rd A i i' i)) (b:=(sT n S (rd A i i)+rd A i i i)*(rd A i i i)⁻¹) (by grind) (Rat.mul_pos pos hw)) h3
   ·obtain⟨i',hi',pos'⟩:=m.con S (λ j hj=>by have:=hS j hj;lia) ⟨i0,hi0⟩
    obtain⟨h1,h2,h3,h4⟩:=key S i' hS hi';refine⟨i',hi',?_⟩;have:rd A i i' i=0:=by have:¬ rd A i i' i<0:=λ z=>ex ⟨i',hi',z⟩;grind
    rw[h1,this];grind
theorem MM.all (m:MM A n 0):∀ k,k<=n->MM A n k
 | 0,_=>m
 | k+1,h=>(MM.all m k (by lia)).step (by lia)
theorem MM.Se (m:MM A n 0):∀ k,k<n->0<rd A k k k:=λ k hk=>(m.all k (by lia)).piv hk
theorem MM.ne (m:MM A n 0):∀ k,k<n->rd A k k k≠0:=λ k hk=>by have:=m.Se k hk;grind
theorem MM.DZ (m:MM A n 0):∀ k,k<=n->0<Dk A k
 | 0,_=>by show(0:Rat)<1;decide
 | k+1,h=>by rw[FJ (eli m.ne k (by lia))];exact Rat.mul_pos (m.Se k (by lia)) (MM.DZ m k (by lia))
end
end Dt0
namespace Dt0
def ab (x C:Rat):Prop:=-C<=x/\x<=C
theorem Qh {x y M C:Rat}(h:ab x M)(h':ab y C):ab (x*y) (M*C):=by
 obtain⟨h1,h2⟩:=h;obtain⟨h3,h4⟩:=h';have p1:=mX (a:=M-x) (b:=C+y) (by grind) (by grind);have p2:=mX (a:=M+x) (b:=C-y) (by grind) (by grind);have p3:=mX (a:=M-x) (b:=C-y) (by grind) (by grind);have p4:=mX (a:=M+x) (b:=C+y) (by grind) (by grind);have e1:(M-x)*(C+y)+(M+x)*(C-y)=2*(M*C)-2*(x*y):=by grind
 have e2:(M-x)*(C-y)+(M+x)*(C+y)=2*(M*C)+2*(x*y):=by grind
 generalize M*C=mc,x*y=xy,(M+x)*(C+y)=a4,(M-x)*(C-y)=a3,(M+x)*(C-y)=a2,(M-x)*(C+y)=a1 at *;exact⟨by grind,by grind⟩
theorem JF {x y M C:Rat}(h:ab x M)(h':ab y C):ab (x-y) (M+C):=⟨by have:=h.1;have:=h'.2;grind,by have:=h.2;have:=h'.1;grind⟩
theorem JG {v:Nat->Rat}{D:List Nat->Rat}{M C:Rat}{s:List Nat}(hv:∀ j,ab (v j) M)(N:Nat)(hD:∀ ds,ds.length<=N->ab (D ds) C):∀ (l q:List Nat),q.length+l.length+s.length<=N->ab (exs v D q l s) ((l.length:Rat)*(M*C))
 | [],q,_=>by
  show ab 0 (((0:Nat):Rat)*(M*C));have:((0:Nat):Rat)*(M*C)=0:=by grind
  rw[this];exact⟨by grind,by grind⟩
 | c::l,q,h=>by
  simp only[aW]at h;have h1:=Qh (hv c) (hD (q++l++s) (by rw[aQ,aQ];lia));have h2:=JG (s:=s) hv N hD l (q++[c]) (by rw[aQ];simp only[aW,cP];lia);have h3:=JF h1 h2;have e:((c::l).length:Rat)*(M*C)=M*C+(l.length:Rat)*(M*C):=by
   have:(((c::l).length:Nat):Rat)=(l.length:Rat)+1:=by rw[aW];exact cZ _ 1
   rw[this];grind
  rw[e];exact h3
theorem tj {x M C:Rat}(h:ab x M)(l:M<=C):ab x C:=⟨by have:=h.1;grind,by have:=h.2;grind⟩
theorem JH {M:Rat}(hM:0<=M):∀ (R:List (Nat->Rat)) (cs:List Nat),(∀ v∈R,∀ j,ab (v j) M)->cs.length<=9->ab (dt R cs) ((9*M) ^ R.length)
 | [],cs,_,_=>by show ab 1 ((9*M) ^ 0);rw[Rat.pow_zero];exact⟨by decide,by decide⟩
 | v::R,cs,h,hl=>by
  have h1:=JG (s:=[]) (h v av) 9 (λ ds hd=>JH hM R ds (λ u hu=>h u (ar _ hu)) hd) cs [] (by simpa using hl);refine tj h1 ?_;have hp:0<=(9*M) ^ R.length:=gY (by grind);have hc:(cs.length:Rat)<=9:=by have:((cs.length:Nat):Rat)<=((9:Nat):Rat):=Rat.natCast_le_natCast.mpr hl;exact this
  have:=mX (a:=9-(cs.length:Rat)) (b:=M*(9*M) ^ R.length) (by grind) (mX hM hp);show(cs.length:Rat)*(M*(9*M) ^ R.length)<=(9*M) ^ (R.length+1);rw[Rat.pow_succ];generalize (9*M) ^ R.length=P at *;have e:(9-(cs.length:Rat))*(M*P)=P*(9*M)-(cs.length:Rat)*(M*P):=by grind
  rw[e]at this;generalize (cs.length:Rat)*(M*P)=z at *;grind
theorem D0 (A:Nat->Nat->Rat):∀ k,(Rw A k).length=k
 | 0=>rfl
 | k+1=>by show(Rw A k).length+1=_;rw[D0 A k]
theorem D1:∀ k,(Ck k).length=k
 | 0=>rfl
 | k+1=>by show(Ck k).length+1=_;rw[D1 k]
theorem JI {A:Nat->Nat->Rat}{u:Nat->Rat}:∀ {k:Nat},u∈Rw A k->∃ r,u=A r
 | 0,h=>by cases h
 | k+1,h=>(aG.mp h).elim (λ e=>⟨k,e⟩) JI
theorem Cb {x : Rat}(h : 1 <= x) : ∀ {m n : Nat}, m <= n -> x ^ m <= x ^ n := by
  intro m n hmn;induction n with
  | zero => have : m = 0 := by lia
            subst this; grind
  | succ n ih =>
    by_cases e : m = n + 1
    · subst e; grind
    · have h1 := ih (by lia)
      have h0 : 0 <= x ^ n := gY (by grind);have := mX (a := x ^ n) (b := x - 1) h0 (by grind);rw[Rat.pow_succ];have e2 : x ^ n * (x - 1) = x ^ n * x - x ^ n := by grind
      rw[e2]at this;generalize x ^ n * x = z at *;grind
theorem Qi {A:Nat->Nat->Rat}{M:Rat}(hM:1<=M)(hz:∀ i j,ab (A i j) M){k:Nat}(hk:k<=8)(e:Eli A k)(i j:Nat):ab (rd A k i j*Dk A k) (2*(9*M) ^ 9)/\ab (Dk A k) ((9*M) ^ 9):=by
 have h9:(1:Rat)<=9*M:=by grind
 have hR:∀ {v:Nat->Rat},(∀ j,ab (v j) M)->∀ u∈v::Rw A k,∀ j,ab (u j) M:=λ hv u hu=>by
  rcases aG.mp hu with rfl | hu
  ·exact hv
  ·obtain⟨r,rfl⟩:=JI hu;exact hz r
 have hb:∀ {v:Nat->Rat},(∀ j,ab (v j) M)->ab (dt (v::Rw A k) (j::Ck k)) ((9*M) ^ 9):=λ hv=>by have:=JH (by grind) _ (j::Ck k) (hR hv) (by rw[aW,D1];lia);exact tj this (Cb h9 (by rw[aW,D0];lia))
 have hD:ab (Dk A k) ((9*M) ^ 9):=by have:=JH (M:=M) (by grind) (Rw A k) (Ck k) (λ u hu=>by obtain⟨r,rfl⟩:=JI hu;exact hz r) (by rw[D1];lia);exact tj this (Cb h9 (by rw[D0];lia))
 refine⟨?_,hD⟩;have hP:0<=(9*M) ^ 9:=gY (by grind);by_cases hi:k<=i
 ·have h:=hb (hz i);rw[xn (e.s i hi),uw λ c hc=>e.z i c hi (xm hc)]at h;exact tj h (by grind)
 ·have hi:i<k:=by lia
  have hv:∀ j:Nat,ab ((λ j=>if j=i then (1:Rat) else 0) j) M:=λ j=>by
   show ab (if j=i then 1 else 0) M;split
   ·exact⟨by grind,by grind⟩
   ·exact⟨by grind,by grind⟩
  have h:=hb hv;have sp:Sp A k (λ j=>(λ j=>if j=i then (1:Rat) else 0) j-((λ j=>if j=i then (1:Rat) else 0) j-rd A k i j)):=(e.t i hi).DX λ j=>by grind
  rw[xn (w:=λ j=>(if j=i then (1:Rat) else 0)-rd A k i j) sp,uw λ c hc=>by
   rw[e.o i c hi (xm hc)];by_cases q:c=i
   ·rw[ae q,ae q.symm];grind
   ·rw[ag q,ag (aY q)];grind]at h
  have h1:ab ((if j=i then (1:Rat) else 0)*Dk A k) ((9*M) ^ 9):=by
   split
   ·have:(1:Rat)*Dk A k=Dk A k:=by grind
    rw[this];exact hD
   ·have:(0:Rat)*Dk A k=0:=by grind
    rw[this];exact⟨by grind,by grind⟩
  have h2:=JF h1 h;have e3:(if j=i then (1:Rat) else 0)*Dk A k-((if j=i then 1 else 0)-rd A k i j)*Dt0.dt (Rw A k) (Ck k)=rd A k i j*Dk A k:=by show _-((if j=i then 1 else 0)-rd A k i j)*Dk A k=_;grind
  rw[e3]at h2;exact tj h2 (by grind)
theorem zt {z:Int}{N:Nat}(h:ab (z:Rat) (N:Rat)):z.natAbs<=N:=by
 have h1:(z:Rat)<=((N:Int):Rat):=h.2;have h2:((-(N:Int):Int):Rat)<=(z:Rat):=by rw[Rat.intCast_neg];exact h.1
 have h1:=dh.mp h1;have h2:=dh.mp h2;lia
theorem Ob {a:Nat->Nat->Int}{n:Nat}(hn:n<=8)(p:∀ k,k<n->rd (qA a) k k k≠0)(hz:∀ i j,(a i j).natAbs<=1000){k:Nat}(hk:k<=n)(i j:Nat):(Tz a k i j).natAbs<2 ^ 200/\(fm a k).natAbs<2 ^ 200:=by
 obtain⟨h1,h2,_⟩:=zr p k hk;have hA:∀ i j,ab (qA a i j) 1000:=λ i j=>by
  have:=hz i j;have l1:(a i j:Int)<=1000:=by lia
  have l2:(-1000:Int)<=a i j:=by lia
  have l1:=dh.mpr l1;have l2:=dh.mpr l2;exact⟨l2,l1⟩
 obtain⟨b1,b2⟩:=Qi (M:=1000) (by decide) hA (bg hk hn) (eli p k hk) i j;rw[<-h1]at b1;rw[<-h2]at b2;have e:(2:Rat)*(9*1000) ^ 9=((2*9000 ^ 9:Nat):Rat):=by decide +kernel
 have e':((9:Rat)*1000) ^ 9=((9000 ^ 9:Nat):Rat):=by decide +kernel
 rw[e]at b1;rw[e']at b2;exact⟨cB (zt b1) (by decide +kernel),cB (zt b2) (by decide +kernel)⟩
end Dt0
namespace L2
open PySem PySem.Spec PyProof.Rows Zp Qs
theorem D2 {a b c:Nat×Nat}(h1:mS a b=V0)(h2:mS b c=V0):mS a c=V0:=by rw[mV]at *;lia
theorem mv:∀ {l:hG},rise l=V0->l.Pairwise (λ a b=>mS a b=V0)
 | [],_=>.nil
 | [a],_=>e_ _ _
 | a::b::r,h=>by
  have h':(mS a b&&rise (b::r))=V0:=h;rw[bJ]at h';have ih:=mv h'.2;refine eY.mpr ⟨λ c hc=>?_,ih⟩;rcases aG.mp hc with rfl | hc
  ·exact h'.1
  ·exact D2 h'.1 ((eY.mp ih).1 c hc)
section
variable {w:Web}(g:Good w)
include g
theorem Good.nd:w.2.Nodup:=B9 (mv g.rise)
theorem Good.Cc (p:Nat):(nb w.2 p).Nodup:=by
 rw[(sX w.2 p).nodup_iff,List.nodup_append];have inj1:((w.2.filter λ t=>t.2==p).map (·.1)).Nodup:=by
  rw[aV,bM];have:=aV.mp (g.nd.filter λ t=>t.2==p);refine dX ?_ this;intro a b ha hb hab e;have h1:a.2=p:=by simpa using (aT.mp ha).2
  have h2:b.2=p:=by simpa using (aT.mp hb).2
  exact hab (gT e (h1.trans h2.symm))
 have inj2:((w.2.filter λ t=>t.1==p).map (·.2)).Nodup:=by
  rw[aV,bM];have:=aV.mp (g.nd.filter λ t=>t.1==p);refine dX ?_ this;intro a b ha hb hab e;have h1:a.1=p:=by simpa using (aT.mp ha).2
  have h2:b.1=p:=by simpa using (aT.mp hb).2
  exact hab (gT (h1.trans h2.symm) e)
 refine⟨inj1,inj2,λ x hx y hy e=>?_⟩;obtain⟨t,ht,rfl⟩:=aE.mp hx;obtain⟨u,hu,rfl⟩:=aE.mp hy;have h1:t.2=p:=by simpa using (aT.mp ht).2
 have h2:u.1=p:=by simpa using (aT.mp hu).2
 have:=g.ok t (aT.mp ht).1;have:=g.ok u (aT.mp hu).1;lia
theorem Good.jr {p j:Nat}(h:j∈nb w.2 p):j<w.1/\p<w.1/\j≠p:=by
 rcases mU.mp h with h | h
 ·have:=g.ok _ h;simp at this;lia
 ·have:=g.ok _ h;simp at this;lia
omit g in
theorem mY {l:hG}{p j:Nat}:j∈nb l p↔p∈nb l j:=by rw[mU,mU];exact Or.comm
theorem Good.Qj (p:Nat)(hp:p<w.1):(nb w.2 p).length<=7:=by
 have h:(p::nb w.2 p).Nodup:=bq.mpr ⟨λ m=>(g.jr m).2.2 rfl,g.Cc p⟩;have:=aP h (l₂:=V2 w.1) λ x hx=>by
  rcases aG.mp hx with rfl | hx
  ·exact ay.mpr hp
  ·exact ay.mpr (g.jr hx).1
 simp at this;have:=g.kg;lia
end
section
variable {w:Web}(g:Good w)
include g
def dg (w:Web)(j:Nat):Nat:=(nb w.2 j).length
theorem Good.hand:S w.1 (λ p=>dg w p)=2*w.2.length:=by
 have e:∀ p,dg w p=(w.2.filter λ t=>t.2==p).length+(w.2.filter λ t=>t.1==p).length:=λ p=>by unfold dg;rw[(sX w.2 p).length_eq,aQ,ak,ak]
 rw[vU λ p _=>e p,Jx];have cnt:∀ (f:Nat×Nat->Nat) (l:hG),(∀ t∈l,f t<w.1)->S w.1 (λ p=>(l.filter λ t=>f t==p).length)=l.length:=by
  intro f l;induction l with
  | nil=>intro _;simp[B_]
  | cons t r ih =>
   intro h;rw[aW,<-ih λ u hu=>h u (ar _ hu),<-N9 (h t av) (λ _=>1),<-Jx];refine vU λ p _=>?_;by_cases hp:f t=p
   ·have:(f t==p)=V0:=by simpa using hp
    rw[cW (by simpa using hp),ae hp.symm];simp
   ·rw[cX (by simpa using hp),ag (aY hp)];simp
 rw[cnt (·.2) w.2 λ t ht=>(g.ok t ht).2,cnt (·.1) w.2 λ t ht=>by have:=g.ok t ht;lia];lia
end
structure FK (l:hG)(s c:Nat)(fd:hG)(iQ:List Nat):Prop where
 start:(s,0)∈fd
 nd:(keys fd).Nodup
 le:∀ q∈fd,q.2<=c
 iQ:∀ v,v∈iQ↔(v,c)∈fd
 cl:∀ q∈fd,q.2<c->∀ u∈nb l q.1,∃ d,(u,d)∈fd/\d<=q.2+1
 par:∀ q∈fd,(q.2=0/\q.1=s)\/∃ u d,(u,d)∈fd/\q.2=d+1/\q.1∈nb l u
 ord:fd.Pairwise (λ a b=>a.2<=b.2)
theorem oy:∀ {fd:hG} {v d:Nat},(keys fd).Nodup->(v,d)∈fd->look fd v=d
 | q::r,v,d,nd,h=>by
  obtain⟨k,e⟩:=q;have nd:(k::keys r).Nodup:=nd;rw[bq]at nd;by_cases hk:v=k
  ·subst hk
   rcases aG.mp h with h | h
   ·cases h;simp[look,List.lookup]
   ·exact absurd (aE.mpr ⟨_,h,rfl⟩) nd.1
  ·rcases aG.mp h with h | h
   ·cases h;exact absurd rfl hk
   ·have:=oy nd.2 h
    unfold look at this ⊢;rw[bf];have:(v==k)=V1:=by simpa using hk
    rw[this];assumption
theorem JJ {fd:hG}{v:Nat}(nd:(keys fd).Nodup)(h:v∈keys fd):(v,look fd v)∈fd:=by obtain⟨⟨a,b⟩,hq,rfl⟩:=aE.mp h;rw[oy nd hq];exact hq
structure Mid (l:hG)(c:Nat)(fd:hG)(st:hG×List Nat)(nw:hG):Prop where
 eq:st.1=fd++nw
 by':st.2=nw.map (·.1)
 nd:(keys st.1).Nodup
 val:∀ q∈nw,q.2=c+1/\∃ u,(u,c)∈fd/\q.1∈nb l u
set_option tactic.hygienic true in
theorem Mid.one {l:hG}{c:Nat}{fd:hG}{st:hG×List Nat}{nw:hG}(h:Mid l c fd st nw){p j:Nat}(hp:(p,c)∈fd)(hj:j∈nb l p):∃ nw',Mid l c fd (ji p st j) nw':=by
 unfold ji;split
 ·exact⟨nw,h⟩
 ·rename_i hk
  have hk:j∉keys st.1:=λ m=>hk ((ox _ _).mpr m);have e:look st.1 p=c:=oy h.nd (by rw[h.eq];exact aM _ hp);refine⟨nw++[(j,look st.1 p+1)],⟨?_,?_,?_,?_⟩⟩
  ·show st.1++_=_;rw[h.eq,dP]
  ·show st.2++[j]=_;rw[h.by',bp];rfl
  ·show(keys (st.1++_)).Nodup;rw[keys,bp];exact zY h.nd hk
  ·intro q hq
   rcases bh.mp hq with z | z
   ·exact h.val q z
   ·rw[aN.mp z,e];exact⟨rfl,p,hp,hj⟩
theorem Mid.vis {l:hG}{c:Nat}{fd:hG}{p:Nat}(hp:(p,c)∈fd):∀ (xs:List Nat) (st:hG×List Nat) (nw:hG),(∀ j∈xs,j∈nb l p)->Mid l c fd st nw->∃ nw',Mid l c fd (xs.foldl (ji p) st) nw'
 | [],st,nw,_,h=>⟨nw,h⟩
 | x::r,st,nw,hx,h=>by obtain⟨nw',h'⟩:=h.one hp (hx x av);exact Mid.vis hp r _ nw' (λ j hj=>hx j (ar _ hj)) h'
theorem Mid.lay {l:hG}{c:Nat}{fd:hG}:∀ (es:List Nat) (st:hG×List Nat) (nw:hG),(∀ p∈es,(p,c)∈fd)->Mid l c fd st nw->∃ nw',Mid l c fd (es.foldl (visit l) st) nw'
 | [],st,nw,_,h=>⟨nw,h⟩
 | x::r,st,nw,hx,h=>by obtain⟨nw',h'⟩:=Mid.vis (hx x av) (nb l x) st nw (λ _ h=>h) h;exact Mid.lay r _ nw' (λ j hj=>hx j (ar _ hj)) h'
theorem FK.step {l:hG}{s c:Nat}{fd:hG}{iQ:List Nat}(h:FK l s c fd iQ):FK l s (c+1) (j9 l fd iQ).1 (j9 l fd iQ).2:=by
 obtain⟨nw,m⟩:=Mid.lay iQ (fd,[]) [] (λ p hp=>(h.iQ p).mp hp) ⟨by simp,rfl,h.nd,λ q hq=>by cases hq⟩;have m:Mid l c fd (j9 l fd iQ) nw:=m;have dn:=λ k (hk:k∈iQ)=>rJ (l:=l) (fd:=fd) iQ (fd,[]) k (.inl hk);have dn:∀ k∈iQ,Done l (j9 l fd iQ).1 k:=dn;have mem:∀ q,q∈(j9 l fd iQ).1↔q∈fd\/q∈nw:=λ q=>by rw[m.eq,bh]
 have le1:∀ q∈(j9 l fd iQ).1,q.2<=c+1:=λ q hq=>by
  rcases (mem q).mp hq with z | z
  ·have:=h.le q z;lia
  ·have:=(m.val q z).1;lia
 refine⟨(mem _).mpr (.inl h.start),m.nd,le1,λ v=>?_,λ q hq lt u hu=>?_,λ q hq=>?_,?_⟩
 ·rw[m.by',aE]
  constructor
  ·rintro⟨q,hq,rfl⟩;have:=(m.val q hq).1;rw[<-this];exact(mem _).mpr (.inr hq)
  ·intro hv
   rcases (mem _).mp hv with z | z
   ·have:=h.le _ z;simp at this;lia
   ·exact⟨_,z,rfl⟩
 ·rcases (mem q).mp hq with z | z
  ·by_cases hc:q.2<c
   ·obtain⟨d,hd,hle⟩:=h.cl q z hc u hu;exact⟨d,(mem _).mpr (.inl hd),hle⟩
   ·have e:q.2=c:=by have:=h.le q z;lia
    have hk:q.1∈iQ:=(h.iQ _).mpr (by rw[<-e];exact z);have:=dn q.1 hk u hu;obtain⟨q',hq',rfl⟩:=aE.mp this;exact⟨q'.2,hq',by rw[e];exact le1 q' hq'⟩
  ·have:=(m.val q z).1;lia
 ·rcases (mem q).mp hq with z | z
  ·rcases h.par q z with y | ⟨u,d,h1,h2,h3⟩
   ·exact .inl y
   ·exact .inr ⟨u,d,(mem _).mpr (.inl h1),h2,h3⟩
  ·obtain⟨e,u,hu,hn⟩:=m.val q z;exact .inr ⟨u,c,(mem _).mpr (.inl hu),e,hn⟩
 ·rw[m.eq,List.pairwise_append]
  refine⟨h.ord,?_,λ a ha b hb=>?_⟩
  ·rw[cQ];intro i j hi hj _;have:=(m.val _ (eM hi)).1;have:=(m.val _ (eM hj)).1;lia
  ·have:=h.le a ha;have:=(m.val b hb).1;lia
structure Far (l:hG)(s:Nat)(fd:hG):Prop where
 start:(s,0)∈fd
 nd:(keys fd).Nodup
 cl:∀ q∈fd,∀ u∈nb l q.1,∃ d,(u,d)∈fd/\d<=q.2+1
 par:∀ q∈fd,(q.2=0/\q.1=s)\/∃ u d,(u,d)∈fd/\q.2=d+1/\q.1∈nb l u
 ord:fd.Pairwise (λ a b=>a.2<=b.2)
theorem zu {l:hG}{s:Nat}:∀ (m c:Nat) (fd:hG) (iQ:List Nat),BI (univ l s) (fd,iQ)->FK l s c fd iQ->(iQ≠[]->2*l.length+3<=m+fd.length)->Far l s (nB l m fd iQ)
 | m,c,fd,[],bi,h,_=>by
  have e:nB l m fd []=fd:=by cases m<;>rfl
  rw[e];exact⟨h.start,h.nd,λ q hq=>h.cl q hq (by
   have:=h.le q hq;rcases Nat.lt_or_ge q.2 c with z | z
   ·exact z
   ·have e:q.2=c:=by lia
    have:=(h.iQ q.1).mpr (by rw[<-e];exact hq);cases this),h.par,h.ord⟩
 | 0,c,fd,e::es,bi,h,hf=>by have:=bi.le;rw[s9]at this;have h:=hf (by simp);have:fd.length<=2*l.length+1:=this;lia
 | m+1,c,fd,e::es,bi,h,hf=>by have hf:=hf (by simp);have bi':BI (univ l s) (fd,[]):=⟨bi.nd,bi.sub,by simp⟩;have lb:=xj (iQ:=e::es) bi';have ll:=ur (l:=l) (fd:=fd) (iQ:=e::es);exact zu m (c+1) (j9 l fd (e::es)).1 (j9 l fd (e::es)).2 ⟨lb.nd,lb.sub,lb.by'⟩ h.step (λ hne=>by have:0<(j9 l fd (e::es)).2.length:=de.mpr hne;lia)
theorem kG (l:hG)(s:Nat):Far l s (bfs l s):=by refine zu (2*l.length+2) 0 [(s,0)] [s] ⟨by simp,λ q hq=>by rw[aN.mp hq];exact av,λ j hj=>by simpa using hj⟩ ?_ (λ _=>by simp);refine⟨by simp,by simp[keys],λ q hq=>by simp at hq;rw[hq];simp,λ v=>by simp,λ q hq lt=>by lia,λ q hq=>by simp at hq;rw[hq];simp,by simp⟩
theorem Far.sub {l:hG}{s:Nat}{fd:hG}(f:Far l s fd)(S:Nat->Prop)(s0:S s)(cl:∀ u v,v∈nb l u->S u->S v):∀ (d v:Nat),(v,d)∈fd->S v
 | 0,v,h=>by
  rcases f.par _ h with⟨_,e⟩ | ⟨u,d,_,e,_⟩
  ·rw[show v=s from e];exact s0
  ·simp at e
 | d+1,v,h=>by
  rcases f.par _ h with⟨e,_⟩ | ⟨u,d',h1,e,hn⟩
  ·simp at e
  ·simp at e;subst e;exact cl u v hn (Far.sub f S s0 cl d u h1)
section
variable {w:Web}(g:Good w)
include g
theorem Good.Sf {v:Nat}(hv:v<w.1):v∈keys (bfs w.2 0):=by
 have f:=kG w.2 0;have sub:∀ k∈keys (bfs w.2 0),k∈V2 w.1:=λ k hk=>by obtain⟨q,hq,rfl⟩:=aE.mp hk;rw[ay];exact f.sub (λ v=>v<w.1) (by have:=g.two;lia) (λ u v h _=>(g.jr h).1) q.2 q.1 hq
 have len:(keys (bfs w.2 0)).length=w.1:=by rw[keys,ak];exact g.all
 refine aJ λ hn=>?_;have:(v::keys (bfs w.2 0)).Nodup:=bq.mpr ⟨hn,f.nd⟩;have:=aP this (l₂:=V2 w.1) (λ k hk=>by
  rcases aG.mp hk with rfl | hk
  ·exact ay.mpr hv
  ·exact sub k hk)
 simp[len]at this;lia
theorem Good.conn (S:Nat->Prop)(cl:∀ u v,v∈nb w.2 u->S u->S v){u v:Nat}(hu:u<w.1)(hv:v<w.1)(h:S u):S v:=by
 have f:=kG w.2 0;have go:∀ (T:Nat->Prop),(∀ u v,v∈nb w.2 u->T u->T v)->T 0->∀ v,v<w.1->T v:=λ T c t0 v hv=>by obtain⟨q,hq,rfl⟩:=aE.mp (g.Sf hv);exact f.sub T t0 c q.2 q.1 hq
 have z:S 0:=aJ λ hn=>go (λ v=>¬ S v) (λ a b hb ha sb=>ha (cl b a (mY.mp hb) sb)) hn u hu h;exact go S cl z v hv
theorem Good.inKeys {s v:Nat}(hs:s<w.1):v∈keys (bfs w.2 s)↔v<w.1:=by
 have f:=kG w.2 s;constructor
 ·intro h;obtain⟨q,hq,rfl⟩:=aE.mp h;exact f.sub (λ v=>v<w.1) hs (λ u v h _=>(g.jr h).1) q.2 q.1 hq
 ·intro hv;refine g.conn (λ v=>v∈L2.keys (bfs w.2 s)) (λ u v hv hu=>?_) hs hv (aE.mpr ⟨_,f.start,rfl⟩);obtain⟨q,hq,rfl⟩:=aE.mp hu;obtain⟨d,hd,_⟩:=f.cl q hq v hv;exact aE.mpr ⟨_,hd,rfl⟩
end
def ds (l:hG)(s v:Nat):Nat:=look (bfs l s) v
section
variable {w:Web}(g:Good w)
include g
omit g in
theorem jC (l:hG)(s:Nat):ds l s s=0:=oy (kG l s).nd (kG l s).start
theorem Good.JK {s v:Nat}(hs:s<w.1)(hv:v<w.1):(v,ds w.2 s v)∈bfs w.2 s:=JJ (kG _ _).nd ((g.inKeys hs).mpr hv)
theorem Good.FL {s u v:Nat}(hs:s<w.1)(h:v∈nb w.2 u):ds w.2 s v<=ds w.2 s u+1:=by obtain⟨d,hd,hle⟩:=(kG w.2 s).cl _ (g.JK hs (g.jr h).2.1) v h;have:ds w.2 s v=d:=oy (kG _ _).nd hd;lia
theorem Good.lO {s v:Nat}(hs:s<w.1)(hv:v<w.1)(ne:v≠s):∃ u,v∈nb w.2 u/\ds w.2 s v=ds w.2 s u+1:=by
 rcases (kG w.2 s).par _ (g.JK hs hv) with⟨_,e⟩ | ⟨u,d,h1,h2,h3⟩
 ·exact absurd e ne
 ·refine⟨u,h3,?_⟩;rw[show ds w.2 s u=d from oy (kG _ _).nd h1];exact h2
theorem Good.oV {s v:Nat}(hs:s<w.1)(hv:v<w.1)(h:ds w.2 s v=0):v=s :=
 aJ λ ne=>by obtain⟨u,_,e⟩:=g.lO hs hv ne;lia
theorem Good.JL {s:Nat}(hs:s<w.1)(F:Nat->Nat)(f0:F s=0)(fs:∀ u v,v∈nb w.2 u->F v<=F u+1):∀ v,v<w.1->F v<=ds w.2 s v:=by
 have go:∀ d v,v<w.1->ds w.2 s v=d->F v<=d:=by
  intro d;induction d with
  | zero=>intro v hv e;rw[g.oV hs hv e,f0];exact aq _
  | succ d ih =>intro v hv e;obtain⟨u,hu,e'⟩:=g.lO hs hv (λ z=>by rw[z,jC]at e;lia);have:=ih u (g.jr hu).2.1 (by lia);have:=fs u v hu;lia
 intro v hv;exact go _ v hv rfl
theorem Good.Qk {a b c:Nat}(ha:a<w.1)(hb:b<w.1)(hc:c<w.1):ds w.2 a c<=ds w.2 a b+ds w.2 b c:=by have:=g.JL hb (λ v=>ds w.2 a v-ds w.2 a b) (by simp) (λ u v h=>by have:=g.FL ha h;lia) c hc;lia
theorem Good.zv {a b:Nat}(ha:a<w.1)(hb:b<w.1):ds w.2 b a<=ds w.2 a b:=by
 have go:∀ d v,v<w.1->ds w.2 a v=d->ds w.2 v a<=d:=by
  intro d;induction d with
  | zero=>intro v hv e;rw[g.oV ha hv e,jC];exact aq _
  | succ d ih =>intro v hv e;obtain⟨u,hu,e'⟩:=g.lO ha hv (λ z=>by rw[z,jC]at e;lia);have hul:=(g.jr hu).2.1;have h1:=ih u hul (by lia);have h2:=g.Qk hv hul ha;have h3:=g.FL hv (mY.mp hu);rw[jC]at h3;lia
 exact go _ b hb rfl
theorem Good.rK {a b:Nat}(ha:a<w.1)(hb:b<w.1):ds w.2 a b=ds w.2 b a:=Nat.le_antisymm (g.zv hb ha) (g.zv ha hb)
theorem Good.As {a b:Nat}(ha:a<w.1)(hb:b<w.1):ds w.2 a b=1↔b∈nb w.2 a:=by
 constructor
 ·intro h;obtain⟨u,hu,e⟩:=g.lO ha hb (λ z=>by rw[z,jC]at h;lia);have:u=a:=g.oV ha (g.jr hu).2.1 (by lia);rw[<-this];exact hu
 ·intro h;have h1:=g.FL ha h;rw[jC]at h1;have h2:ds w.2 a b≠0:=λ e=>(g.jr h).2.2 (g.oV ha hb e);lia
end
def pM (a b:Nat):Nat×Nat:=(min a b,max a b)
theorem GX (a b:Nat):pM a b=pM b a:=by unfold pM;rw[Nat.min_comm,Nat.max_comm]
theorem xo {a b c d:Nat}(h:pM a b=pM c d):(a=c/\b=d)\/(a=d/\b=c):=by unfold pM at h;simp only[Prod.mk.injEq]at h;lia
theorem Cd {α:Type}{a b:List α}(nd:a.Nodup)(sub:∀ x∈a,x∈b)(len:b.length<=a.length):∀ x∈b,x∈a:=λ x hx=>aJ λ hn=>by
 have:=aP (bq.mpr ⟨hn,nd⟩) (l₂:=b) (λ y hy=>by
  rcases aG.mp hy with rfl | hy
  ·exact hx
  ·exact sub y hy)
 simp at this;lia
section
variable {w:Web}(g:Good w)
include g
theorem Good.JM {u v:Nat}:v∈nb w.2 u↔pM u v∈w.2:=by
 rw[mU];unfold pM;constructor
 ·rintro (h | h)
  ·have:=g.ok _ h;simp at this;rw[gE (by lia),gP (by lia)];exact h
  ·have:=g.ok _ h;simp at this;rw[gO (by lia),gD (by lia)];exact h
 ·intro h
  rcases Nat.le_total u v with z | z
  ·rw[gO z,gD z]at h;exact .inr h
  ·rw[gE z,gP z]at h;exact .inl h
variable (tr:w.2.length+1=w.1)
include tr
theorem Good.Ce {b:Nat}(hb:b<w.1):∃ par:Nat->Nat,(∀ v,v<w.1->v≠b->v∈nb w.2 (par v)/\ds w.2 b v=ds w.2 b (par v)+1)/\∀ u v,v∈nb w.2 u->(v≠b/\u=par v)\/(u≠b/\v=par u):=by
 have hx:∀ v,∃ u,v<w.1->v≠b->v∈nb w.2 u/\ds w.2 b v=ds w.2 b u+1:=λ v=>by
  by_cases h:v<w.1/\v≠b
  ·obtain⟨u,hu⟩:=g.lO hb h.1 h.2;exact⟨u,λ _ _=>hu⟩
  ·exact⟨0,λ h1 h2=>absurd ⟨h1,h2⟩ h⟩
 obtain⟨par,hp⟩:=Classical.axiomOfChoice hx;have hp:∀ v,v<w.1->v≠b->v∈nb w.2 (par v)/\ds w.2 b v=ds w.2 b (par v)+1:=hp;refine⟨par,hp,?_⟩;have vs:∀ v,v∈(V2 w.1).filter (λ v=>v != b)↔v<w.1/\v≠b:=λ v=>by simp[aT]
 have nd0:((V2 w.1).filter (λ v=>v != b)).Nodup:=bw.filter _;have len0:w.1<=((V2 w.1).filter (λ v=>v != b)).length+1:=by
  have:=aP (bw (n:=w.1)) (l₂:=b::(V2 w.1).filter (λ v=>v != b)) (λ v hv=>by
   by_cases e:v=b
   ·rw[e];exact av
   ·exact ar _ ((vs v).mpr ⟨ay.mp hv,e⟩))
  simpa using this
 have nd1:(((V2 w.1).filter (λ v=>v != b)).map λ v=>pM (par v) v).Nodup:=by
  rw[aV,bM];refine dX ?_ (aV.mp nd0);intro x y hx hy ne e;obtain⟨x1,x2⟩:=(vs x).mp hx;obtain⟨y1,y2⟩:=(vs y).mp hy;rcases xo e with⟨_,z⟩ | ⟨z1,z2⟩
  ·exact ne z
  ·have h1:=(hp x x1 x2).2;have h2:=(hp y y1 y2).2;rw[z1]at h1;rw[<-z2]at h2;lia
 have full:=Cd nd1 (b:=w.2) (λ t ht=>by obtain⟨v,hv,rfl⟩:=aE.mp ht;obtain⟨h1,h2⟩:=(vs v).mp hv;exact g.JM.mp (hp v h1 h2).1) (by rw[ak];lia)
 intro u v h;obtain⟨x,hx,e⟩:=aE.mp (full _ (g.JM.mp h));obtain⟨h1,h2⟩:=(vs x).mp hx;rcases xo e with⟨z1,z2⟩ | ⟨z1,z2⟩
 ·exact .inl ⟨z2▸h2,by rw[<-z1,z2]⟩
 ·exact .inr ⟨z2▸h2,by rw[<-z1,z2]⟩
theorem Good.rL {b u v:Nat}(hb:b<w.1)(h:v∈nb w.2 u):ds w.2 b v=ds w.2 b u+1\/ds w.2 b u=ds w.2 b v+1:=by
 obtain⟨par,hp,ht⟩:=g.Ce tr hb;rcases ht u v h with⟨n,e⟩ | ⟨n,e⟩
 ·have:=(hp v (g.jr h).1 n).2;rw[<-e]at this;exact .inl this
 ·have:=(hp u (g.jr h).2.1 n).2;rw[<-e]at this;exact .inr this
theorem Good.zw {b u u' v:Nat}(hb:b<w.1)(h:u∈nb w.2 v)(h':u'∈nb w.2 v)(lt:ds w.2 b u<ds w.2 b v)(lt':ds w.2 b u'<ds w.2 b v):u=u':=by
 obtain⟨par,hp,ht⟩:=g.Ce tr hb;have go:∀ u,u∈nb w.2 v->ds w.2 b u<ds w.2 b v->u=par v:=λ u h lt=>by
  rcases ht v u h with⟨n,e⟩ | ⟨n,e⟩
  ·have:=(hp u (g.jr h).1 n).2;rw[<-e]at this;lia
  ·exact e
 rw[go u h lt,go u' h' lt']
end
def nx (l:hG)(b v:Nat):Nat:=((nb l v).filter (λ u=>decide (ds l b u<ds l b v))).headD 0
section
variable {w:Web}(g:Good w)
include g
theorem Good.tm {b v:Nat}(hb:b<w.1)(hv:v<w.1)(ne:v≠b):nx w.2 b v∈nb w.2 v/\ds w.2 b v=ds w.2 b (nx w.2 b v)+1/\((nb w.2 v).filter (λ u=>decide (ds w.2 b u<ds w.2 b v)))≠[]:=by
 obtain⟨u,hu,e⟩:=g.lO hb hv ne;have hm:u∈(nb w.2 v).filter (λ u=>decide (ds w.2 b u<ds w.2 b v)):=aT.mpr ⟨mY.mp hu,by simp;lia⟩;have hne:((nb w.2 v).filter (λ u=>decide (ds w.2 b u<ds w.2 b v)))≠[]:=List.ne_nil_of_mem hm;have hh:nx w.2 b v∈(nb w.2 v).filter (λ u=>decide (ds w.2 b u<ds w.2 b v)):=by
  unfold nx;match (nb w.2 v).filter (λ u=>decide (ds w.2 b u<ds w.2 b v)),hne with
  | x::r,_=>exact av
 obtain⟨h1,h2⟩:=aT.mp hh;have h2:ds w.2 b (nx w.2 b v)<ds w.2 b v:=by simpa using h2
 have:=g.FL hb (mY.mp h1);exact⟨h1,by lia,hne⟩
theorem Good.Sg {b v:Nat}(hb:b<w.1)(hv:v<w.1)(ne:v≠b):nx w.2 b v<w.1:=(g.jr (g.tm hb hv ne).1).1
variable (tr:w.2.length+1=w.1)
include tr
theorem Good.tq {b u v:Nat}(hb:b<w.1)(h:u∈nb w.2 v)(lt:ds w.2 b u<ds w.2 b v):u=nx w.2 b v:=by
 have ne:v≠b:=λ e=>by rw[e,jC]at lt;lia
 obtain⟨h1,h2,_⟩:=g.tm hb (g.jr h).2.1 ne;exact g.zw tr hb h h1 lt (by lia)
end
def cut (l:hG)(a b:Nat):hG:=l.filter λ t=>t != pM a b
section
variable {w:Web}(g:Good w)
include g
theorem Good.JN {a b u v:Nat}:v∈nb (cut w.2 a b) u↔v∈nb w.2 u/\pM u v≠pM a b:=by
 have e:(v,u)∈cut w.2 a b\/(u,v)∈cut w.2 a b↔((v,u)∈w.2/\(v,u)≠pM a b)\/((u,v)∈w.2/\(u,v)≠pM a b):=by simp[cut,aT]
 rw[mU,e,mU];have h1:(v,u)∈w.2->pM u v=(v,u):=λ h=>by have:=g.ok _ h;simp at this;simp[pM];lia
 have h2:(u,v)∈w.2->pM u v=(u,v):=λ h=>by have:=g.ok _ h;simp at this;simp[pM];lia
 constructor
 ·rintro (⟨h,n⟩ | ⟨h,n⟩)
  ·exact⟨.inl h,by rw[h1 h];exact n⟩
  ·exact⟨.inr h,by rw[h2 h];exact n⟩
 ·rintro⟨h | h,n⟩
  ·exact .inl ⟨h,by rw[<-h1 h];exact n⟩
  ·exact .inr ⟨h,by rw[<-h2 h];exact n⟩
variable (tr:w.2.length+1=w.1)
include tr
theorem Good.side {a b v:Nat}(hv:v<w.1)(hab:b∈nb w.2 a):ds w.2 a v=ds w.2 b v+1\/ds w.2 b v=ds w.2 a v+1:=by
 have ha:=(g.jr hab).2.1;have hb:=(g.jr hab).1;rw[g.rK ha hv,g.rK hb hv];rcases g.rL tr hv hab with h | h
 ·exact .inr h
 ·exact .inl h
theorem Good.Si {a b u v:Nat}(hab:b∈nb w.2 a)(h:v∈nb w.2 u)(su:ds w.2 a u=ds w.2 b u+1)(sv:ds w.2 b v=ds w.2 a v+1):u=b/\v=a:=by
 have ha:=(g.jr hab).2.1;have hb:=(g.jr hab).1;have hu:=(g.jr h).2.1;have hv:=(g.jr h).1;have h1:=g.rL tr ha h;have h2:=g.rL tr hb h;have e:u=b:=aJ λ ne=>by
  obtain⟨p1,p2,_⟩:=g.tm hb hu ne;have hp:=(g.jr p1).1;have h3:=g.rL tr ha p1;have h4:=g.side tr hp hab;by_cases lt:ds w.2 a (nx w.2 b u)<ds w.2 a u
  ·have:v=nx w.2 b u:=g.zw tr ha h p1 (by lia) lt;rw[<-this]at p2;lia
  ·lia
 subst e;rw[jC]at su h2;exact⟨rfl,g.oV ha hv (by lia)⟩
theorem Good.JO {a b v:Nat}(hab:b∈nb w.2 a):v∈keys (bfs (cut w.2 a b) b)↔v<w.1/\ds w.2 a v=ds w.2 b v+1:=by
 have ha:=(g.jr hab).2.1;have hb:=(g.jr hab).1;have f:=kG (cut w.2 a b) b;have ab1:ds w.2 a b=1:=(g.As ha hb).mpr hab;have ba1:ds w.2 b a=1:=(g.As hb ha).mpr (mY.mp hab);constructor
 ·intro h
  obtain⟨q,hq,rfl⟩:=aE.mp h;refine f.sub (λ v=>v<w.1/\ds w.2 a v=ds w.2 b v+1) ⟨hb,by rw[jC,ab1]⟩ (λ u v hn hs=>?_) q.2 q.1 hq;obtain⟨n1,n2⟩:=g.JN.mp hn;refine⟨(g.jr n1).1,?_⟩;rcases g.side tr (g.jr n1).1 hab with z | z
  ·exact z
  ·obtain⟨rfl,rfl⟩:=g.Si tr hab n1 hs.2 z;exact absurd (GX _ _) n2
 ·rintro⟨hv,e⟩
  have go:∀ d v,v<w.1->ds w.2 b v=d->ds w.2 a v=ds w.2 b v+1->v∈keys (bfs (cut w.2 a b) b):=by
   intro d;induction d with
   | zero=>intro v hv h0 _;rw[g.oV hb hv h0];exact aE.mpr ⟨_,f.start,rfl⟩
   | succ d ih =>
    intro v hv hd hs;obtain⟨u,hu,e'⟩:=g.lO hb hv (λ z=>by rw[z,jC]at hd;lia);have hul:=(g.jr hu).2.1;have h1:=g.rL tr ha hu;have h2:=g.side tr hul hab;have su:ds w.2 a u=ds w.2 b u+1:=by lia
    obtain⟨q,hq,rfl⟩:=aE.mp (ih u hul (by lia) su);obtain⟨d',hd',_⟩:=f.cl q hq v (g.JN.mpr ⟨hu,λ t=>by
     rcases xo t with⟨z,_⟩ | ⟨_,z⟩
     ·rw[z,jC]at su;lia
     ·rw[z,jC]at hs;lia⟩)
    exact aE.mpr ⟨_,hd',rfl⟩
  exact go _ v hv rfl e
theorem Good.xp {a b:Nat}(hab:b∈nb w.2 a):(bfs (cut w.2 a b) b).length=(V2 w.1).countP λ v=>decide (ds w.2 a v=ds w.2 b v+1):=by
 have f:=kG (cut w.2 a b) b;have e:(bfs (cut w.2 a b) b).length=(keys (bfs (cut w.2 a b) b)).length:=by simp[keys]
 rw[e,List.countP_eq_length_filter];have iff:∀ v,v∈keys (bfs (cut w.2 a b) b)↔v∈(V2 w.1).filter λ v=>decide (ds w.2 a v=ds w.2 b v+1):=λ v=>by rw[g.JO tr hab,aT,ay];simp
 exact Nat.le_antisymm (aP f.nd λ v h=>(iff v).mp h) (aP (bw.filter _) λ v h=>(iff v).mpr h)
end
theorem xq {α:Type}(p q:α->Bool):∀ (l:List α),(∀ x∈l,q x=!p x)->l.countP p+l.countP q=l.length
 | [],_=>rfl
 | x::r,h=>by have ih:=xq p q r λ y hy=>h y (ar _ hy);have hx:=h x av;rw[d4,d4,hx,aW];cases p x<;>simp<;>lia
section
variable {w:Web}(g:Good w)(tr:w.2.length+1=w.1)
include g tr
theorem Good.parts {a b:Nat}(hab:b∈nb w.2 a):(bfs (cut w.2 a b) b).length+(bfs (cut w.2 b a) a).length=w.1:=by
 rw[g.xp tr hab,g.xp tr (mY.mp hab)];have:=xq (λ v=>decide (ds w.2 a v=ds w.2 b v+1)) (λ v=>decide (ds w.2 b v=ds w.2 a v+1)) (V2 w.1) λ v hv=>by
  have:=g.side tr (ay.mp hv) hab;by_cases h:ds w.2 a v=ds w.2 b v+1
  ·have h':¬ ds w.2 b v=ds w.2 a v+1:=by lia
   simp only[h,h',decide_true,decide_false,di];simp;lia
  ·have h':ds w.2 b v=ds w.2 a v+1:=by lia
   simp[h'];lia
 rw[bA]at this;exact this
end
def sz (l:hG)(a b:Nat):Nat:=(bfs (cut l a b) b).length
def ov (l:hG)(a b:Nat):Int:=2*(sz l b a:Int)-1
def mF (l:hG)(b:Nat):Nat->Nat->Int
 | 0,_=>0
 | k+1,v=>if v=b then 0 else mF l b k (nx l b v)+ov l v (nx l b v)
def mn (l:hG)(b v:Nat):Int:=mF l b (ds l b v) v
theorem vV (l:hG)(b:Nat):mn l b b=0:=by unfold mn;rw[jC];rfl
section
variable {w:Web}(g:Good w)
include g
theorem Good.qM {b v:Nat}(hb:b<w.1)(hv:v<w.1)(ne:v≠b):mn w.2 b v=mn w.2 b (nx w.2 b v)+ov w.2 v (nx w.2 b v):=by obtain⟨_,e,_⟩:=g.tm hb hv ne;unfold mn;rw[e,mF,ag ne]
theorem Good.Oc {b:Nat}(hb:b<w.1){P:Nat->Prop}(h0:P b)(hs:∀ v,v<w.1->v≠b->P (nx w.2 b v)->P v):∀ v,v<w.1->P v:=by
 have go:∀ d v,v<w.1->ds w.2 b v=d->P v:=by
  intro d;induction d with
  | zero=>intro v hv e;rw[g.oV hb hv e];exact h0
  | succ d ih =>
   intro v hv e;have ne:v≠b:=λ z=>by rw[z,jC]at e;lia
   obtain⟨_,e',_⟩:=g.tm hb hv ne;exact hs v hv ne (ih _ (g.Sg hb hv ne) (by lia))
 exact λ v hv=>go _ v hv rfl
variable (tr:w.2.length+1=w.1)
include tr
theorem Good.FN {a b:Nat}(hab:b∈nb w.2 a):ov w.2 a b+ov w.2 b a=2*(w.2.length:Int):=by have:=g.parts tr hab;unfold ov sz;lia
theorem Good.Ms {a b:Nat}(hab:b∈nb w.2 a):∀ v,v<w.1->ds w.2 a v=ds w.2 b v+1->mn w.2 a v=mn w.2 b v+ov w.2 b a:=by
 have ha:=(g.jr hab).2.1;have hb:=(g.jr hab).1;have ba1:ds w.2 b a=1:=(g.As hb ha).mpr (mY.mp hab);refine g.Oc hb ?_ λ v hv ne ih=>?_
 ·intro e;have ne:b≠a:=(g.jr hab).2.2;have:a=nx w.2 a b:=g.tq tr ha (mY.mp hab) (by rw[jC,e];lia);rw[g.qM ha hb ne,<-this,vV,vV]
 ·intro e
  obtain⟨h1,h2,_⟩:=g.tm hb hv ne;have hu:=(g.jr h1).1;have h3:=g.rL tr ha h1;have h4:=g.side tr hu hab;have su:ds w.2 a (nx w.2 b v)=ds w.2 b (nx w.2 b v)+1:=by lia
  have va:v≠a:=λ z=>by rw[z,jC]at e;lia
  have eq:nx w.2 b v=nx w.2 a v:=g.tq tr ha h1 (by lia);rw[g.qM ha hv va,<-eq,ih su,g.qM hb hv ne];lia
theorem Good.Mt {b:Nat}(hb:b<w.1):∀ a,a<w.1->mn w.2 b a+mn w.2 a b=2*(w.2.length:Int)*(ds w.2 b a:Int):=by
 refine g.Oc hb (by rw[vV,jC];simp) λ a ha ne ih=>?_;obtain⟨h1,h2,_⟩:=g.tm hb ha ne;have hu:=(g.jr h1).1;have e:ds w.2 a b=ds w.2 (nx w.2 b a) b+1:=by rw[g.rK ha hb,g.rK hu hb];exact h2
 rw[g.qM hb ha ne,g.Ms tr h1 b hb e,h2];have:=g.FN tr h1;rw[Int.natCast_add,Int.mul_add];simp;lia
end
section
variable {w:Web}(g:Good w)(tr:w.2.length+1=w.1)
include g tr
end
def eqA (w:Web)(gv:Nat->g6 Int)(ad:Nat->Int)(i j:Nat):Int :=
 match gv i with
 | some v=>if j=w.1 then v else if j=i then 1 else 0
 | none=>if j=w.1 then ad i else if j=i then (dg w i:Int) else if j∈nb w.2 i then -1 else 0
theorem JP {n:Nat}(f:Nat->Rat):∀ (xs:List Nat),xs.Nodup->(∀ x∈xs,x<n)->Dt0.sm n (λ j=>if j∈xs then f j else 0)=(xs.map f).sum
 | [],_,_=>by have:Dt0.sm n (λ j=>if j∈([]:List Nat) then f j else 0)=Dt0.sm n (λ _=>0):=Dt0.jT λ j _=>ag (by simp);rw[this,Dt0.qL];rfl
 | x::r,nd,h=>by
  obtain⟨h1,h2⟩:=bq.mp nd;have ih:=JP f r h2 λ y hy=>h y (ar _ hy);have one:Dt0.sm n (λ j=>if j=x then f j else 0)=f x:=by have:=Dt0.qe (f:=λ j=>if j=x then f j else 0) (h x av) λ j _ ne=>ag ne;rw[this,ae rfl]
  have e:Dt0.sm n (λ j=>if j∈x::r then f j else 0)=Dt0.sm n (λ j=>1*(if j=x then f j else 0)+1*(if j∈r then f j else 0)):=Dt0.jT λ j _=>by
   by_cases c:j=x
   ·subst c;rw[ae av,ae rfl,ag h1];grind
   ·by_cases c2:j∈r
    ·rw[ae (ar _ c2),ag c,ae c2];grind
    ·rw[ag (by simp[c,c2]),ag c,ag c2];grind
  rw[e,Dt0.qc,one,ih,au,aI];grind
section
variable {w:Web}(g:Good w){gv:Nat->g6 Int}{ad:Nat->Int}
include g
theorem Good.xr {i:Nat}(hi:i<w.1)(h:gv i=My)(y:Nat->Rat):Dt0.sm w.1 (λ j=>(eqA w gv ad i j:Rat)*y j)=(dg w i:Rat)*y i-((nb w.2 i).map y).sum:=by
 have one:Dt0.sm w.1 (λ j=>if j=i then (dg w i:Rat)*y j else 0)=(dg w i:Rat)*y i:=by have:=Dt0.qe (f:=λ j=>if j=i then (dg w i:Rat)*y j else 0) hi λ j _ ne=>ag ne;rw[this,ae rfl]
 have e:Dt0.sm w.1 (λ j=>(eqA w gv ad i j:Rat)*y j)=Dt0.sm w.1 (λ j=>1*(if j=i then (dg w i:Rat)*y j else 0)+-1*(if j∈nb w.2 i then y j else 0)):=Dt0.jT λ j hj=>by
  unfold eqA;rw[h];show((if j=w.1 then ad i else if j=i then (dg w i:Int) else if j∈nb w.2 i then -1 else 0:Int):Rat)*y j=_;rw[ag (by lia)];by_cases c:j=i
  ·subst c;have:j∉nb w.2 j:=λ m=>(g.jr m).2.2 rfl;rw[ae rfl,ae rfl,ag this,df];grind
  ·rw[ag c,ag c]
   by_cases c2:j∈nb w.2 i
   ·rw[ae c2,ae c2];have:((-1:Int):Rat)=-1:=rfl;rw[this];grind
   ·rw[ag c2,ag c2];have:((0:Int):Rat)=0:=rfl;rw[this];grind
 rw[e,Dt0.qc,one,JP _ _ (g.Cc i) λ x hx=>(g.jr hx).1];grind
omit g in
theorem xt {i:Nat}{v:Int}(hi:i<w.1)(h:gv i=kb v)(y:Nat->Rat):Dt0.sm w.1 (λ j=>(eqA w gv ad i j:Rat)*y j)=y i:=by
 have:=Dt0.qe (f:=λ j=>(eqA w gv ad i j:Rat)*y j) hi λ j hj ne=>by unfold eqA;rw[h];show((if j=w.1 then v else if j=i then 1 else 0:Int):Rat)*y j=_;rw[ag (by lia),ag ne];have:((0:Int):Rat)=0:=rfl;rw[this];grind
 rw[this];unfold eqA;rw[h];show((if i=w.1 then v else if i=i then 1 else 0:Int):Rat)*y i=_;rw[ag (by lia),ae rfl];have:((1:Int):Rat)=1:=rfl;rw[this];grind
omit g in
theorem JQ (n:Nat)(S:Nat->Bool)(f:Nat->Rat):Dt0.sT n S f=Dt0.sm n (λ j=>f j*(if S j=V0 then 1 else 0)):=by unfold Dt0.sT;exact Dt0.jT λ j _=>by split<;>grind
omit g in
theorem zx (S:Nat->Bool):∀ (xs:List Nat),(xs.length:Rat)-(xs.map λ j=>if S j=V0 then (1:Rat) else 0).sum=((xs.countP λ j=>!S j:Nat):Rat)
 | []=>by show((0:Nat):Rat)-0=((0:Nat):Rat);grind
 | x::r=>by
  have ih:=zx S r;rw[au,aI,aW,d4];have e1:((r.length+1:Nat):Rat)=(r.length:Rat)+1:=cZ _ 1;cases c:S x with
  | true =>simp only[di,aS,bP,cJ,Nat.add_zero];rw[e1,<-ih];grind
  | false =>simp only[fY,aS,bP,cJ];have e2:((List.countP (λ j=>!S j) r+1:Nat):Rat)=((List.countP (λ j=>!S j) r:Nat):Rat)+1:=cZ _ 1;rw[e1,e2,<-ih];grind
theorem Good.FO {i:Nat}(hi:i<w.1)(h:gv i=My)(S:Nat->Bool)(hs:S i=V0):Dt0.sT w.1 S (Dt0.qA (eqA w gv ad) i)=(((nb w.2 i).countP λ j=>!S j:Nat):Rat):=by rw[JQ];show Dt0.sm w.1 (λ j=>(eqA w gv ad i j:Rat)*(if S j=V0 then 1 else 0))=_;rw[g.xr hi h,hs,ae rfl,<-zx];show(dg w i:Rat)*1-_=(dg w i:Rat)-_;grind
omit g in
theorem FP {i:Nat}{v:Int}(hi:i<w.1)(h:gv i=kb v)(S:Nat->Bool)(hs:S i=V0):Dt0.sT w.1 S (Dt0.qA (eqA w gv ad) i)=1:=by rw[JQ];show Dt0.sm w.1 (λ j=>(eqA w gv ad i j:Rat)*(if S j=V0 then 1 else 0))=_;rw[xt hi h,hs,ae rfl]
omit g in
theorem Ql (k:Nat):(0:Rat)<=(k:Rat):=Rat.natCast_nonneg
theorem Good.mm (hg:∃ p,p<w.1/\gv p≠My):Dt0.MM (Dt0.qA (eqA w gv ad)) w.1 0:=by
 refine⟨λ i j _ hi _ hj ne=>?_,λ S i hS hi=>?_,λ S hS hne=>?_⟩
 ·show((eqA w gv ad i j:Int):Rat)<=0
  have:eqA w gv ad i j<=0:=by
   unfold eqA;split
   ·rw[ag (by lia),ag (aY ne)];lia
   ·rw[ag (by lia),ag (aY ne)];split<;>lia
  exact dh.mpr this
 ·show 0<=Dt0.sT w.1 S (Dt0.qA (eqA w gv ad) i)
  cases h:gv i with
  | none=>rw[g.FO (hS i hi).2 h S hi];exact Ql _
  | some v=>rw[FP (hS i hi).2 h S hi];decide
 ·show ∃ i,S i=V0/\0<Dt0.sT w.1 S (Dt0.qA (eqA w gv ad) i)
  refine aJ λ hn=>?_;have no:∀ i,S i=V0->¬ 0<Dt0.sT w.1 S (Dt0.qA (eqA w gv ad) i):=λ i hi hp=>hn ⟨i,hi,hp⟩;have gn:∀ i,S i=V0->gv i=My:=λ i hi=>by
   cases h:gv i with
   | none=>rfl
   | some v=>exact absurd (by rw[FP (hS i hi).2 h S hi];decide) (no i hi)
  have cl:∀ u v,v∈nb w.2 u->S u=V0->S v=V0:=λ u v hv hu=>by
   have:=no u hu;rw[g.FO (hS u hu).2 (gn u hu) S hu]at this;have z:((nb w.2 u).countP λ j=>!S j)=0:=by
    rcases Nat.eq_zero_or_pos ((nb w.2 u).countP λ j=>!S j) with z | z
    ·exact z
    ·exact absurd (fR.mpr z) this
   have:=fT.mp z v hv;simpa using this
  obtain⟨i0,h0⟩:=hne;obtain⟨p,hp,hgp⟩:=hg;exact hgp (gn p (g.conn (λ v=>S v=V0) cl (hS i0 h0).2 hp h0))
def sol (w:Web)(gv:Nat->g6 Int)(ad:Nat->Int)(i:Nat):Rat:=Dt0.rd (Dt0.qA (eqA w gv ad)) w.1 i w.1
omit g in
theorem xu (i:Nat):eqA w gv ad i w.1=(match gv i with | some v=>v | none=>ad i):=by unfold eqA;split<;>rw[ae rfl]
theorem Good.Cf (hg:∃ p,p<w.1/\gv p≠My){i:Nat}{v:Int}(hi:i<w.1)(h:gv i=kb v):sol w gv ad i=(v:Rat):=by have:=Dt0.JE (g.mm (ad:=ad) hg).ne hi;rw[xt hi h,xu,h]at this;exact this
theorem Good.Cg (hg:∃ p,p<w.1/\gv p≠My){i:Nat}(hi:i<w.1)(h:gv i=My):(dg w i:Rat)*sol w gv ad i=((nb w.2 i).map (sol w gv ad)).sum+(ad i:Rat):=by have:=Dt0.JE (g.mm (ad:=ad) hg).ne hi;rw[g.xr hi h,xu,h]at this;have:(dg w i:Rat)*sol w gv ad i-((nb w.2 i).map (sol w gv ad)).sum=(ad i:Rat):=this;grind
theorem Good.xw (hg:∃ p,p<w.1/\gv p≠My){y:Nat->Rat}(h1:∀ i v,i<w.1->gv i=kb v->y i=(v:Rat))(h2:∀ i,i<w.1->gv i=My->(dg w i:Rat)*y i=((nb w.2 i).map y).sum+(ad i:Rat)){i:Nat}(hi:i<w.1):y i=sol w gv ad i:=by
 refine Dt0.only (g.mm (ad:=ad) hg).ne (λ i hi=>?_) hi;rw[xu];cases h:gv i with
 | none=>rw[g.xr hi h];have:=h2 i hi h;show _=(ad i:Rat);grind
 | some v=>rw[xt hi h];exact h1 i v hi h
end
theorem me (f h:Nat->Rat):∀ (l:List Nat),(l.map λ x=>f x+h x).sum=(l.map f).sum+(l.map h).sum
 | []=>by show(0:Rat)=0+0;grind
 | x::r=>by rw[au,au,au,aI,aI,aI,me f h r];grind
theorem nP (c:Rat)(f:Nat->Rat):∀ (l:List Nat),(l.map λ x=>c*f x).sum=c*(l.map f).sum
 | []=>by show(0:Rat)=c*0;grind
 | x::r=>by rw[au,au,aI,aI,nP c f r];grind
theorem lD (c:Rat):∀ (l:List Nat),(l.map λ _=>c).sum=(l.length:Rat)*c
 | []=>by show(0:Rat)=((0:Nat):Rat)*c;grind
 | x::r=>by have:((r.length+1:Nat):Rat)=(r.length:Rat)+1:=cZ _ 1;rw[au,aI,lD c r,aW,this];grind
theorem jA {f h:Nat->Rat}{l:List Nat}(e:∀ x∈l,f x=h x):(l.map f).sum=(l.map h).sum:=by rw[aL e]
theorem Au (F:Nat->Nat->Rat)(m:List Nat):∀ (l:List Nat),(l.map λ x=>(m.map λ y=>F x y).sum).sum=(m.map λ y=>(l.map λ x=>F x y).sum).sum
 | []=>by show(0:Rat)=(m.map λ _=>0).sum;rw[lD];grind
 | x::r=>by rw[au,aI,Au F m r,<-me];exact jA λ y _=>by rw[au,aI]
theorem mZ {f:Nat->Rat}{a:Nat}:∀ {l:List Nat},l.Nodup->a∈l->(l.map λ x=>if x=a then f x else 0).sum=f a
 | x::r,nd,h=>by
  obtain⟨h1,h2⟩:=bq.mp nd;rw[au,aI];by_cases c:x=a
  ·subst c;have z:(r.map λ y=>if y=x then f y else 0).sum=(r.map λ _=>(0:Rat)).sum:=jA λ y hy=>ag λ(e:y=x)=>h1 (e▸hy);rw[ae rfl,z,lD];grind
  ·rcases aG.mp h with e | e
   ·exact absurd e.symm c
   ·rw[ag c,mZ h2 e];grind
theorem Qm {f:Nat->Rat}{a:Nat}{l:List Nat}(h:a∉l):(l.map λ x=>if x=a then f x else 0).sum=0:=by have z:(l.map λ y=>if y=a then f y else 0).sum=(l.map λ _=>(0:Rat)).sum:=jA λ y hy=>ag λ(e:y=a)=>h (e▸hy);rw[z,lD];grind
section
variable {w:Web}(g:Good w)
include g
theorem Good.FQ (F:Nat->Nat->Rat):((V2 w.1).map λ i=>((nb w.2 i).map λ u=>F i u).sum).sum=((V2 w.1).map λ u=>((nb w.2 u).map λ i=>F i u).sum).sum:=by
 have one:∀ (p:Nat) (f:Nat->Rat),((nb w.2 p).map f).sum=((V2 w.1).map λ u=>((nb w.2 p).map λ v=>if v=u then f v else 0).sum).sum:=λ p f=>by
  rw[Au];exact jA λ v hv=>by
   refine(mZ (f:=λ u=>f v) (a:=v) (l:=V2 w.1) bw (ay.mpr (g.jr hv).1)).symm.trans (jA λ u _=>?_)
   ·by_cases c:u=v
    ·rw[ae c,ae c.symm]
    ·rw[ag c,ag (aY c)]
 have val:∀ (p u:Nat) (f:Nat->Rat),((nb w.2 p).map λ v=>if v=u then f v else 0).sum=if u∈nb w.2 p then f u else 0:=λ p u f=>by
  by_cases c:u∈nb w.2 p
  ·rw[ae c,mZ (g.Cc p) c]
  ·rw[ag c,Qm c]
 rw[jA λ i _=>one i (λ u=>F i u),Au];refine jA λ u hu=>?_;rw[one u λ i=>F i u];refine jA λ i hi=>?_;rw[val i u,val u i (λ i=>F i u)];by_cases c:u∈nb w.2 i
 ·rw[ae c,ae (mY.mp c)]
 ·rw[ag c,ag λ z=>c (mY.mp z)]
theorem Good.Qn:((V2 w.1).map λ i=>(dg w i:Rat)).sum=((2*w.2.length:Nat):Rat):=by
 rw[<-g.hand];have:∀ (l:List Nat),(l.map λ i=>(dg w i:Rat)).sum=(((l.map λ i=>dg w i).sum:Nat):Rat):=λ l=>by
  induction l with
  | nil=>rfl
  | cons x r ih=>rw[au,au,aI,aI,ih,cZ]
 exact this _
omit g in
def gvM (b:Nat)(i:Nat):g6 Int:=if i=b then kb 0 else My
def meQ (w:Web)(b i:Nat):Rat:=sol w (gvM b) (λ i=>(dg w i:Int)) i
omit g in
theorem nD {b:Nat}(hb:b<w.1):∃ p,p<w.1/\gvM b p≠My:=⟨b,hb,by unfold gvM;rw[ae rfl];simp⟩
theorem Good.vW {b:Nat}(hb:b<w.1):meQ w b b=0:=g.Cf (nD hb) hb (v:=0) (by unfold gvM;rw[ae rfl])
theorem Good.Od {b i:Nat}(hb:b<w.1)(hi:i<w.1)(ne:i≠b):(dg w i:Rat)*meQ w b i=((nb w.2 i).map (meQ w b)).sum+(dg w i:Rat):=g.Cg (nD hb) hi (by unfold gvM;rw[ag ne])
theorem Good.Mu {b:Nat}(hb:b<w.1){y:Nat->Rat}(h0:y b=0)(h:∀ i,i<w.1->i≠b->(dg w i:Rat)*y i=((nb w.2 i).map y).sum+(dg w i:Rat)){i:Nat}(hi:i<w.1):y i=meQ w b i:=by
 refine g.xw (nD hb) (λ i v hi hv=>?_) (λ i hi hv=>?_) hi
 ·unfold gvM at hv
  by_cases c:i=b
  ·rw[ae c]at hv;injection hv with hv;rw[c,h0,<-hv];rfl
  ·rw[ag c]at hv;cases hv
 ·unfold gvM at hv
  by_cases c:i=b
  ·rw[ae c]at hv;cases hv
  ·exact h i hi c
theorem Good.Mv {b:Nat}(hb:b<w.1):((nb w.2 b).map (meQ w b)).sum+(dg w b:Rat)=((2*w.2.length:Nat):Rat):=by
 have sw:=g.FQ (λ _ u=>meQ w b u);have e1:((V2 w.1).map λ u=>((nb w.2 u).map λ _=>meQ w b u).sum).sum=((V2 w.1).map λ u=>(dg w u:Rat)*meQ w b u).sum:=jA λ u _=>lD _ _;have e2:((V2 w.1).map λ u=>(dg w u:Rat)*meQ w b u).sum=((V2 w.1).map λ u=>(((nb w.2 u).map (meQ w b)).sum+(dg w u:Rat))+-1*(if u=b then ((nb w.2 b).map (meQ w b)).sum+(dg w b:Rat) else 0)).sum:=jA λ u hu=>by
  by_cases c:u=b
  ·subst c;rw[ae rfl,g.vW hb];grind
  ·rw[ag c,g.Od hb (ay.mp hu) c];grind
 rw[me,me,nP,mZ (f:=λ _=>((nb w.2 b).map (meQ w b)).sum+(dg w b:Rat)) bw (ay.mpr hb),g.Qn]at e2;have sw:((V2 w.1).map λ i=>((nb w.2 i).map (meQ w b)).sum).sum=((V2 w.1).map λ u=>((nb w.2 u).map λ _=>meQ w b u).sum).sum:=sw;rw[e1,e2]at sw;generalize ((nb w.2 b).map (meQ w b)).sum=y,((V2 w.1).map λ i=>((nb w.2 i).map (meQ w b)).sum).sum=x at *;grind
omit g in
def gvA (a b:Nat)(i:Nat):g6 Int:=if i=a then kb 1 else if i=b then kb 0 else My
def ahQ (w:Web)(a b i:Nat):Rat:=sol w (gvA a b) (λ _=>0) i
omit g in
theorem Mw {a b:Nat}(ha:a<w.1):∃ p,p<w.1/\gvA a b p≠My:=⟨a,ha,by unfold gvA;rw[ae rfl];simp⟩
end
theorem Ci (P:Nat->Nat->Bool)(ys:List Nat):∀ (xs:List Nat),(xs.map λ u=>ys.countP (P u)).sum=(ys.map λ x=>xs.countP λ u=>P u x).sum
 | []=>by
  show 0=(ys.map λ x=>0).sum;induction ys with
  | nil=>rfl
  | cons y r ih=>rw[au,aI,<-ih];rfl
 | x::r=>by
  rw[au,aI,Ci P ys r];induction ys with
  | nil=>rfl
  | cons y q ih =>rw[d4,au,au,aI,aI,d4,<-ih];lia
theorem FR {P:Nat->Bool}{a:Nat}:∀ {l:List Nat},l.Nodup->a∈l->(∀ u∈l,P u=V0↔u=a)->l.countP P=1
 | x::r,nd,h,hp=>by
  obtain⟨h1,h2⟩:=bq.mp nd;rw[d4];by_cases c:x=a
  ·subst c;have z:r.countP P=0:=fT.mpr λ y hy hpy=>h1 (((hp y (ar _ hy)).mp hpy)▸hy);rw[z,(hp x av).mpr rfl];rfl
  ·have n:P x=V1:=by
    cases q:P x with
    | false=>rfl
    | true=>exact absurd ((hp x av).mp q) c
   rcases aG.mp h with e | e
   ·exact absurd e.symm c
   ·rw[FR h2 e λ u hu=>hp u (ar _ hu),n];rfl
section
variable {w:Web}(g:Good w)(tr:w.2.length+1=w.1)
include g tr
theorem Good.GY {v:Nat}(hv:v<w.1):((nb w.2 v).map λ u=>sz w.2 v u).sum=w.2.length:=by
 have e:(nb w.2 v).map (λ u=>sz w.2 v u)=(nb w.2 v).map λ u=>(V2 w.1).countP λ x=>decide (ds w.2 v x=ds w.2 u x+1):=aL λ u hu=>g.xp tr hu;rw[e,Ci (λ u x=>decide (ds w.2 v x=ds w.2 u x+1))];have e2:(V2 w.1).map (λ x=>(nb w.2 v).countP λ u=>decide (ds w.2 v x=ds w.2 u x+1))=(V2 w.1).map λ x=>if x=v then 0 else 1:=aL λ x hx=>by
  have hx:=ay.mp hx;by_cases c:x=v
  ·subst c
   rw[ae rfl];refine fT.mpr λ u hu hp=>?_;have hp:ds w.2 x x=ds w.2 u x+1:=by simpa using hp
   rw[jC]at hp;lia
  ·rw[ag c]
   obtain⟨h1,h2,_⟩:=g.tm hx hv (aY c);refine FR (g.Cc v) h1 λ u hu=>?_;have hul:=(g.jr hu).1;rw[decide_eq_true_iff,g.rK hv hx,g.rK hul hx];constructor
   ·intro q;exact g.tq tr hx hu (by lia)
   ·intro q;rw[q];exact h2
 rw[e2];have h1:=Jx w.1 (λ x=>if x=v then 0 else 1) (λ x=>if x=v then 1 else 0);have h2:=N9 hv (λ _=>1);have h3:S w.1 (λ x=>(if x=v then 0 else 1)+if x=v then 1 else 0)=w.1:=by
  rw[vU (g:=λ _=>1) λ i _=>by split<;>rfl];have:∀ n,S n (λ _=>1)=n:=λ n=>by
   induction n with
   | zero=>rfl
   | succ n ih=>rw[qb,ih]
  exact this _
 rw[h2,h3]at h1;have:((V2 w.1).map λ x=>if x=v then 0 else 1).sum=S w.1 (λ x=>if x=v then 0 else 1):=rfl;rw[this];lia
theorem Good.Sj {b v:Nat}(hb:b<w.1)(hv:v<w.1)(ne:v≠b):(dg w v:Rat)*(mn w.2 b v:Rat)=((nb w.2 v).map λ u=>(mn w.2 b u:Rat)).sum+(dg w v:Rat):=by
 obtain⟨n1,n2,_⟩:=g.tm hb hv ne;have e:(nb w.2 v).map (λ u=>(mn w.2 b u:Rat))=(nb w.2 v).map λ u=>((2*(sz w.2 v u:Rat)+((mn w.2 b v:Rat)-1))+-1*(if u=nx w.2 b v then 2*(w.2.length:Rat) else 0)):=aL λ u hu=>by
  have ob:=g.FN tr hu;have o2:ov w.2 u v=2*(sz w.2 v u:Int)-1:=rfl;have cz:(((2*(sz w.2 v u:Int)-1:Int)):Rat)=2*(sz w.2 v u:Rat)-1:=by rw[fQ,eh,df];rfl
  by_cases c:u=nx w.2 b v
  ·have st:=g.qM hb hv ne
   rw[<-c]at st;have z:mn w.2 b u=mn w.2 b v+(2*(sz w.2 v u:Int)-1)-2*(w.2.length:Int):=by lia
   have cl:((2*(w.2.length:Int):Int):Rat)=2*(w.2.length:Rat):=by rw[eh,df];rfl
   rw[ae c,z,fQ,gR,cz,cl];grind
  ·have far:ds w.2 b u=ds w.2 b v+1:=by
    rcases g.rL tr hb hu with q | q
    ·exact q
    ·exact absurd (g.tq tr hb hu (by lia)) c
   have nb':u≠b:=λ q=>by rw[q,jC]at far;lia
   have st:=g.qM hb (g.jr hu).1 nb';rw[<-g.tq tr hb (mY.mp hu) (by lia),o2]at st;rw[ag c,st,gR,cz];grind
 have sz':((nb w.2 v).map λ u=>(sz w.2 v u:Rat)).sum=(w.2.length:Rat):=by
  rw[<-g.GY tr hv];have:∀ (l:List Nat),(l.map λ u=>(sz w.2 v u:Rat)).sum=(((l.map λ u=>sz w.2 v u).sum:Nat):Rat):=λ l=>by
   induction l with
   | nil=>rfl
   | cons x r ih=>rw[au,au,aI,aI,ih,cZ]
  exact this _
 rw[e,me,me,nP,nP,lD,mZ (f:=λ _=>2*(w.2.length:Rat)) (g.Cc v) n1,sz'];show(dg w v:Rat)*_=2*(w.2.length:Rat)+(dg w v:Rat)*_+_+_;grind
theorem Good.Oe {b i:Nat}(hb:b<w.1)(hi:i<w.1):meQ w b i=(mn w.2 b i:Rat) :=
 (g.Mu hb (y:=λ v=>(mn w.2 b v:Rat)) (by rw[vV];rfl) (λ v hv ne=>g.Sj tr hb hv ne) hi).symm
end
theorem vX {l l':List Rat}(h:l.Perm l'):l.sum=l'.sum:=by
 induction h with
 | nil=>rfl
 | cons x _ ih=>rw[aI,aI,ih]
 | swap x y l=>rw[aI,aI,aI,aI];grind
 | trans _ _ i1 i2=>rw[i1,i2]
theorem Qo (l l':List Rat):(l++l').sum=l.sum+l'.sum:=by
 induction l with
 | nil=>show l'.sum=0+l'.sum;grind
 | cons x r ih=>rw[fH,aI,aI,ih];grind
def dvg (zs:List ((Nat×Nat)×Rat))(p:Nat):Rat:=((zs.filter λ z=>z.1.1==p).map (·.2)).sum-((zs.filter λ z=>z.1.2==p).map (·.2)).sum
theorem m6 (z:(Nat×Nat)×Rat)(zs:List ((Nat×Nat)×Rat))(p:Nat):dvg (z::zs) p=dvg zs p+((if p=z.1.1 then z.2 else 0)+-1*(if p=z.1.2 then z.2 else 0)):=by
 unfold dvg;by_cases c:z.1.1=p
 ·rw[cW (by simpa using c),ae c.symm,au,aI]
  by_cases d:z.1.2=p
  ·rw[cW (by simpa using d),ae d.symm,au,aI];grind
  ·rw[cX (by simpa using d),ag (aY d)];grind
 ·rw[cX (by simpa using c),ag (aY c)]
  by_cases d:z.1.2=p
  ·rw[cW (by simpa using d),ae d.symm,au,aI];grind
  ·rw[cX (by simpa using d),ag (aY d)];grind
theorem Cj (f:Nat->Rat)(n:Nat):∀ (zs:List ((Nat×Nat)×Rat)),(∀ z∈zs,z.1.1<n/\z.1.2<n)->(zs.map λ z=>z.2*(f z.1.1-f z.1.2)).sum=((V2 n).map λ p=>f p*dvg zs p).sum
 | [],_=>by
  have:((V2 n).map λ p=>f p*dvg [] p).sum=((V2 n).map λ _=>(0:Rat)).sum:=jA λ p _=>by show f p*(0-0)=0;grind
  rw[this,lD];show(0:Rat)=_;grind
 | z::zs,h=>by
  obtain⟨h1,h2⟩:=h z av;have ih:=Cj f n zs λ y hy=>h y (ar _ hy);have e:((V2 n).map λ p=>f p*dvg (z::zs) p).sum=((V2 n).map λ p=>f p*dvg zs p+((if p=z.1.1 then f p*z.2 else 0)+-1*(if p=z.1.2 then f p*z.2 else 0))).sum:=jA λ p _=>by
   rw[m6];by_cases c:p=z.1.1
   ·rw[ae c,ae c]
    by_cases d:p=z.1.2
    ·rw[ae d,ae d];grind
    ·rw[ag d,ag d];grind
   ·rw[ag c,ag c]
    by_cases d:p=z.1.2
    ·rw[ae d,ae d];grind
    ·rw[ag d,ag d];grind
  rw[e,me,me,nP,mZ (f:=λ p=>f p*z.2) bw (ay.mpr h1),mZ (f:=λ p=>f p*z.2) bw (ay.mpr h2),au,aI,ih];grind
def evZ (w:Web)(h:Nat->Rat):List ((Nat×Nat)×Rat):=w.2.map λ t=>(t,h t.1-h t.2)
def lap (w:Web)(h:Nat->Rat)(p:Nat):Rat:=(dg w p:Rat)*h p-((nb w.2 p).map h).sum
theorem Sk (l:hG)(p:Nat)(h:Nat->Rat):((nb l p).map h).sum=((l.filter λ t=>t.2==p).map λ t=>h t.1).sum+((l.filter λ t=>t.1==p).map λ t=>h t.2).sum:=by rw[vX ((sX l p).map h),bp,Qo,aR,aR];rfl
theorem Sl (l:hG)(p:Nat):(nb l p).length=(l.filter λ t=>t.2==p).length+(l.filter λ t=>t.1==p).length:=by rw[(sX l p).length_eq,aQ,ak,ak]
theorem Av (f:Nat×Nat->Rat)(c:Rat):∀ (l:hG),(l.map λ t=>c-f t).sum=(l.length:Rat)*c-(l.map f).sum
 | []=>by show(0:Rat)=((0:Nat):Rat)*c-0;grind
 | x::r=>by have:((r.length+1:Nat):Rat)=(r.length:Rat)+1:=cZ _ 1;rw[au,au,aI,aI,Av f c r,aW,this];grind
theorem Cm (w:Web)(h:Nat->Rat)(p:Nat):dvg (evZ w h) p=lap w h p:=by
 have e1:((evZ w h).filter λ z=>z.1.1==p).map (·.2)=(w.2.filter λ t=>t.1==p).map λ t=>h p-h t.2:=by
  unfold evZ;rw[List.filter_map,aR];refine aL λ t ht=>?_;have:t.1=p:=by simpa using (aT.mp ht).2
  show h t.1-h t.2=_;rw[this]
 have e2:((evZ w h).filter λ z=>z.1.2==p).map (·.2)=(w.2.filter λ t=>t.2==p).map λ t=>-1*(h p-h t.1):=by
  unfold evZ;rw[List.filter_map,aR];refine aL λ t ht=>?_;have:t.2=p:=by simpa using (aT.mp ht).2
  show h t.1-h t.2=_;rw[this];grind
 have e3:∀ (l:hG) (F:Nat×Nat->Rat),(l.map λ t=>-1*F t).sum=-1*(l.map F).sum:=λ l F=>by
  induction l with
  | nil=>show(0:Rat)=-1*0;grind
  | cons x r ih=>rw[au,au,aI,aI,ih];grind
 unfold dvg lap;rw[e1,e2,e3,Av (λ t=>h t.2),Av (λ t=>h t.1),Sk];unfold dg;rw[Sl];have:(((w.2.filter λ t=>t.2==p).length+(w.2.filter λ t=>t.1==p).length:Nat):Rat)=((w.2.filter λ t=>t.2==p).length:Rat)+((w.2.filter λ t=>t.1==p).length:Rat):=cZ _ _;rw[this];grind
section
variable {w:Web}(g:Good w)
include g
theorem Good.Mx (h:Nat->Rat):((V2 w.1).map λ p=>lap w h p).sum=0:=by
 have e:((V2 w.1).map λ p=>lap w h p).sum=((V2 w.1).map λ p=>(dg w p:Rat)*h p+-1*((nb w.2 p).map h).sum).sum:=jA λ p _=>by unfold lap;grind
 have sw:=g.FQ (λ _ u=>h u);have e1:((V2 w.1).map λ u=>((nb w.2 u).map λ _=>h u).sum).sum=((V2 w.1).map λ u=>(dg w u:Rat)*h u).sum:=jA λ u _=>lD _ _;rw[e1]at sw;have sw:((V2 w.1).map λ i=>((nb w.2 i).map h).sum).sum=((V2 w.1).map λ u=>(dg w u:Rat)*h u).sum:=sw;rw[e,me,nP,sw];grind
omit g in
def adH (a i:Nat):Int:=if i=a then 1 else 0
def htQ (w:Web)(a b i:Nat):Rat:=sol w (gvM b) (adH a) i
def hiQ (w:Web)(a b:Nat):Rat:=htQ w a b a
theorem Good.Aw {a b:Nat}(hb:b<w.1):htQ w a b b=0:=g.Cf (nD hb) hb (v:=0) (by unfold gvM;rw[ae rfl])
theorem Good.JR {a b i:Nat}(hb:b<w.1)(hi:i<w.1)(ne:i≠b):lap w (htQ w a b) i=if i=a then 1 else 0:=by
 have:=g.Cg (ad:=adH a) (nD hb) hi (by unfold gvM;rw[ag ne]);have this:(dg w i:Rat)*htQ w a b i=((nb w.2 i).map (htQ w a b)).sum+(adH a i:Rat):=this;unfold lap;have e:(adH a i:Rat)=if i=a then 1 else 0:=by
  unfold adH;by_cases c:i=a
  ·rw[ae c,ae c];rfl
  ·rw[ag c,ag c];rfl
 rw[e]at this;grind
theorem Good.Mz {a b:Nat}(hb:b<w.1){y:Nat->Rat}(h0:y b=0)(h:∀ i,i<w.1->i≠b->lap w y i=if i=a then 1 else 0){i:Nat}(hi:i<w.1):y i=htQ w a b i:=by
 refine g.xw (nD hb) (λ i v hi hv=>?_) (λ i hi hv=>?_) hi
 ·unfold gvM at hv
  by_cases c:i=b
  ·rw[ae c]at hv;injection hv with hv;rw[c,h0,<-hv];rfl
  ·rw[ag c]at hv;cases hv
 ·unfold gvM at hv
  by_cases c:i=b
  ·rw[ae c]at hv;cases hv
  ·have:=h i hi c
   unfold lap at this;have e:(adH a i:Rat)=if i=a then 1 else 0:=by
    unfold adH;by_cases c:i=a
    ·rw[ae c,ae c];rfl
    ·rw[ag c,ag c];rfl
   rw[e];grind
theorem Good.D3 {a b i:Nat}(ha:a<w.1)(hb:b<w.1)(ne:a≠b)(hi:i<w.1):lap w (htQ w a b) i=(if i=a then 1 else 0)+-1*(if i=b then 1 else 0):=by
 by_cases c:i=b
 ·have s:=g.Mx (htQ w a b)
  have e:((V2 w.1).map λ p=>lap w (htQ w a b) p).sum=((V2 w.1).map λ p=>(if p=a then (1:Rat) else 0)+(if p=b then lap w (htQ w a b) p else 0)).sum:=jA λ p hp=>by
   by_cases d:p=b
   ·rw[ae d,ag (by lia)];grind
   ·rw[ag d,g.JR hb (ay.mp hp) d];grind
  rw[e,me,mZ (f:=λ _=>(1:Rat)) bw (ay.mpr ha),mZ (f:=λ p=>lap w (htQ w a b) p) bw (ay.mpr hb)]at s;rw[c,ae rfl,ag (aY ne)];grind
 ·rw[g.JR hb hi c,ag c];grind
omit g in
theorem FT (x y:Rat)(f h:Nat->Rat)(p:Nat):lap w (λ i=>x*f i+y*h i) p=x*lap w f p+y*lap w h p:=by
 unfold lap;have e:((nb w.2 p).map λ i=>x*f i+y*h i).sum=x*((nb w.2 p).map f).sum+y*((nb w.2 p).map h).sum:=by rw[me,nP,nP]
 rw[e];grind
omit g in
theorem GZ (c:Rat)(p:Nat):lap w (λ _=>c) p=0:=by unfold lap;rw[lD];show(dg w p:Rat)*c-(dg w p:Rat)*c=0;grind
theorem Good.JS {b i:Nat}(hb:b<w.1)(hi:i<w.1):lap w (meQ w b) i=(dg w i:Rat)+-1*(if i=b then ((2*w.2.length:Nat):Rat) else 0):=by
 unfold lap;by_cases c:i=b
 ·subst c;have:=g.Mv hi;rw[ae rfl,g.vW hi];grind
 ·have:=g.Od hb hi c;rw[ag c];grind
theorem Good.Sm {a b i:Nat}(ha:a<w.1)(hb:b<w.1)(hi:i<w.1):htQ w a b i=(((2*w.2.length:Nat):Rat))⁻¹*(meQ w b i-meQ w a i+meQ w a b):=by
 have mp:0<2*w.2.length:=by have:=de.mpr g.ne;lia
 have mq:((2*w.2.length:Nat):Rat)≠0:=by have:(0:Rat)<((2*w.2.length:Nat):Rat):=fR.mpr mp;grind
 have cc:=cT _ mq;refine(g.Mz (y:=λ i=>(((2*w.2.length:Nat):Rat))⁻¹*(meQ w b i-meQ w a i+meQ w a b)) hb ?_ (λ i hi ne=>?_) hi).symm
 ·show _*(meQ w b b-meQ w a b+meQ w a b)=0;rw[g.vW hb];grind
 ·have e:(λ i=>(((2*w.2.length:Nat):Rat))⁻¹*(meQ w b i-meQ w a i+meQ w a b))=λ i=>1*((λ i=>(((2*w.2.length:Nat):Rat))⁻¹*meQ w b i+-(((2*w.2.length:Nat):Rat))⁻¹*meQ w a i) i)+1*((λ _=>(((2*w.2.length:Nat):Rat))⁻¹*meQ w a b) i):=by funext i;grind
  rw[e,FT,FT,GZ,g.JS hb hi,g.JS ha hi,ag ne];by_cases c:i=a
  ·rw[ae c,ae c];grind
  ·rw[ag c,ag c];grind
theorem Good.MA {a b:Nat}(ha:a<w.1)(hb:b<w.1):meQ w b a+meQ w a b=((2*w.2.length:Nat):Rat)*hiQ w a b:=by
 have mp:0<2*w.2.length:=by have:=de.mpr g.ne;lia
 have mq:((2*w.2.length:Nat):Rat)≠0:=by have:(0:Rat)<((2*w.2.length:Nat):Rat):=fR.mpr mp;grind
 have cc:=cT _ mq;unfold hiQ;rw[g.Sm ha hb ha,g.vW ha,<-Rat.mul_assoc,cc];grind
theorem Good.Qp {t:Nat×Nat}(h:t∈w.2):t.1<w.1/\t.2<w.1:=by have:=g.ok t h;lia
theorem Good.ux {a b:Nat}(ha:a<w.1)(hb:b<w.1){zs:List ((Nat×Nat)×Rat)}(hz:∀ z∈zs,z.1∈w.2)(hd:∀ p,p<w.1->dvg zs p=(if p=a then 1 else 0)+-1*(if p=b then 1 else 0))(f:Nat->Rat):(zs.map λ z=>z.2*(f z.1.1-f z.1.2)).sum=f a-f b:=by
 rw[Cj f w.1 zs λ z h=>g.Qp (hz z h)];have e:((V2 w.1).map λ p=>f p*dvg zs p).sum=((V2 w.1).map λ p=>(if p=a then f p else 0)+-1*(if p=b then f p else 0)).sum:=jA λ p hp=>by
  rw[hd p (ay.mp hp)];by_cases c:p=a
  ·rw[ae c,ae c]
   by_cases d:p=b
   ·rw[ae d,ae d];grind
   ·rw[ag d,ag d];grind
  ·rw[ag c,ag c]
   by_cases d:p=b
   ·rw[ae d,ae d];grind
   ·rw[ag d,ag d];grind
 rw[e,me,nP,mZ (f:=f) bw (ay.mpr ha),mZ (f:=f) bw (ay.mpr hb)];grind
theorem Good.Ax {a b:Nat}(ha:a<w.1)(hb:b<w.1)(ne:a≠b):∀ p,p<w.1->dvg (evZ w (htQ w a b)) p=(if p=a then 1 else 0)+-1*(if p=b then 1 else 0):=λ p hp=>by rw[Cm];exact g.D3 ha hb ne hp
omit g in
theorem JT {h:Nat->Rat}:∀ z∈evZ w h,z.1∈w.2:=λ z hz=>by obtain⟨t,ht,rfl⟩:=aE.mp hz;exact ht
theorem Good.oz {a b:Nat}(ha:a<w.1)(hb:b<w.1)(ne:a≠b):(w.2.map λ t=>(htQ w a b t.1-htQ w a b t.2)*(htQ w a b t.1-htQ w a b t.2)).sum=hiQ w a b:=by
 have:=g.ux ha hb JT (g.Ax ha hb ne) (htQ w a b);rw[g.Aw hb]at this;unfold evZ at this;rw[aR]at this;have e:htQ w a b a-0=hiQ w a b:=by unfold hiQ;grind
 rw[e]at this;exact this
end
theorem xx {α:Type}(x y:Rat)(f h:α->Rat):∀ (l:List α),(l.map λ z=>x*f z+y*h z).sum=x*(l.map f).sum+y*(l.map h).sum
 | []=>by show(0:Rat)=x*0+y*0;grind
 | z::r=>by rw[au,au,au,aI,aI,aI,xx x y f h r];grind
theorem Oh (x:Rat):0<=x*x:=by
 rcases Rat.le_total (a:=0) (b:=x) with h | h
 ·exact gW h h
 ·have:=gW (a:=-x) (b:=-x) (by grind) (by grind);grind
theorem uy {α:Type}(f:α->Rat):∀ (l:List α),0<=(l.map λ z=>f z*f z).sum
 | []=>by show(0:Rat)<=0;decide
 | z::r=>by rw[au,aI];have:=uy f r;have:=Oh (f z);grind
theorem xA {α:Type}(f:α->Rat):∀ (l:List α),(l.map λ z=>f z*f z).sum=0->∀ z∈l,f z=0
 | [],_,z,hz=>by cases hz
 | y::r,h,z,hz=>by
  rw[au,aI]at h;have h1:=uy f r;have h2:=Oh (f y);rcases aG.mp hz with e | e
  ·rw[e]
   have:f y*f y=0:=by grind
   rcases gQ.mp this with q | q<;>exact q
  ·exact xA f r (by grind) z e
section
variable {w:Web}(g:Good w)
include g
theorem Good.Sn {a b:Nat}(ha:a<w.1)(hb:b<w.1)(ne:a≠b):0<=hiQ w a b:=by rw[<-g.oz ha hb ne];exact uy (λ t:Nat×Nat=>htQ w a b t.1-htQ w a b t.2) w.2
theorem Good.D4 {a b:Nat}(ha:a<w.1)(hb:b<w.1)(ne:a≠b):0<hiQ w a b:=by
 refine aJ λ hn=>?_;have z:hiQ w a b=0:=by have:=g.Sn ha hb ne;grind
 have ev:=g.oz ha hb ne;rw[z]at ev;have al:=xA (λ t:Nat×Nat=>htQ w a b t.1-htQ w a b t.2) w.2 ev;have la:=g.D3 ha hb ne ha;rw[ae rfl,ag ne,<-Cm]at la;have:dvg (evZ w (htQ w a b)) a=0:=by
  have nil:∀ (l:List ((Nat×Nat)×Rat)),(∀ z∈l,z.2=0)->(l.map (·.2)).sum=0:=λ l=>by
   induction l with
   | nil=>intro _;rfl
   | cons y r ih =>intro h;rw[au,aI,ih λ z hz=>h z (ar _ hz),h y av];grind
  have in0:∀ z∈evZ w (htQ w a b),z.2=0:=λ z hz=>by obtain⟨t,ht,rfl⟩:=aE.mp hz;exact al t ht
  unfold dvg;rw[nil _ λ z hz=>in0 z (aT.mp hz).1,nil _ λ z hz=>in0 z (aT.mp hz).1];grind
 rw[this]at la;grind
theorem Good.Cn {a b:Nat}(ha:a<w.1)(hb:b<w.1)(ne:a≠b){zs:List ((Nat×Nat)×Rat)}(hz:zs.map (·.1)=w.2)(hd:∀ p,p<w.1->dvg zs p=(if p=a then 1 else 0)+-1*(if p=b then 1 else 0)) :
  (zs.map λ z=>z.2*z.2).sum=hiQ w a b+(zs.map λ z=>(z.2-(htQ w a b z.1.1-htQ w a b z.1.2))*(z.2-(htQ w a b z.1.1-htQ w a b z.1.2))).sum:=by
 have p1:=g.ux ha hb (λ z h=>by rw[<-hz];exact aE.mpr ⟨z,h,rfl⟩) hd (htQ w a b);rw[g.Aw hb]at p1;have ev:=g.oz ha hb ne;rw[<-hz,aR]at ev;have ev:(zs.map λ z=>(htQ w a b z.1.1-htQ w a b z.1.2)*(htQ w a b z.1.1-htQ w a b z.1.2)).sum=hiQ w a b:=ev;have e:zs.map (λ z=>(z.2-(htQ w a b z.1.1-htQ w a b z.1.2))*(z.2-(htQ w a b z.1.1-htQ w a b z.1.2)))=zs.map λ z=>1*(z.2*z.2)+1*((λ z:(Nat×Nat)×Rat=>-2*(z.2*(htQ w a b z.1.1-htQ w a b z.1.2))+1*((htQ w a b z.1.1-htQ w a b z.1.2)*(htQ w a b z.1.1-htQ w a b z.1.2))) z):=aL λ z _=>by grind
 rw[e,xx,xx,p1,ev];have:htQ w a b a=hiQ w a b:=rfl;rw[this];grind
theorem Good.VL {a b i:Nat}(ha:a<w.1)(hb:b<w.1)(ne:a≠b)(hi:i<w.1):ahQ w a b i=(hiQ w a b)⁻¹*htQ w a b i:=by
 have pos:=g.D4 ha hb ne;have cc:=cT (hiQ w a b) (by grind);refine(g.xw (gv:=gvA a b) (ad:=λ _=>0) (Mw ha) (y:=λ i=>(hiQ w a b)⁻¹*htQ w a b i) (λ i v hi hv=>?_) (λ i hi hv=>?_) hi).symm
 ·unfold gvA at hv
  by_cases c:i=a
  ·rw[ae c]at hv;injection hv with hv;rw[c,<-hv];show(hiQ w a b)⁻¹*hiQ w a b=1;grind
  ·rw[ag c]at hv
   by_cases d:i=b
   ·rw[ae d]at hv;injection hv with hv;rw[d,<-hv,g.Aw hb];show _*(0:Rat)=0;grind
   ·rw[ag d]at hv;cases hv
 ·unfold gvA at hv
  by_cases c:i=a
  ·rw[ae c]at hv;cases hv
  ·rw[ag c]at hv
   by_cases d:i=b
   ·rw[ae d]at hv;cases hv
   ·have:=g.D3 ha hb ne hi
    rw[ag c,ag d]at this;unfold lap at this;have z:((0:Int):Rat)=0:=rfl;rw[z,nP];generalize ((nb w.2 i).map (htQ w a b)).sum=x at *;have h2:(dg w i:Rat)*htQ w a b i=x:=by grind
    rw[<-h2];grind
theorem Good.JU {a b:Nat}(ha:a<w.1)(hb:b<w.1)(ne:a≠b){l:Nat->Rat}(la:l a=1)(lb:l b=0):(w.2.map λ t=>(l t.1-l t.2)*(l t.1-l t.2)).sum=(hiQ w a b)⁻¹+(w.2.map λ t=>((l t.1-l t.2)-(hiQ w a b)⁻¹*(htQ w a b t.1-htQ w a b t.2))*((l t.1-l t.2)-(hiQ w a b)⁻¹*(htQ w a b t.1-htQ w a b t.2))).sum:=by
 have pos:=g.D4 ha hb ne;have cc:=cT (hiQ w a b) (by grind);have p1:=g.ux ha hb JT (g.Ax ha hb ne) l;unfold evZ at p1;rw[aR,la,lb]at p1;have p1:(w.2.map λ t=>(htQ w a b t.1-htQ w a b t.2)*(l t.1-l t.2)).sum=1-0:=p1;have ev:=g.oz ha hb ne;have e:w.2.map (λ t=>((l t.1-l t.2)-(hiQ w a b)⁻¹*(htQ w a b t.1-htQ w a b t.2))*((l t.1-l t.2)-(hiQ w a b)⁻¹*(htQ w a b t.1-htQ w a b t.2)))=w.2.map λ t=>1*((l t.1-l t.2)*(l t.1-l t.2))+1*((λ t:Nat×Nat=>-2*(hiQ w a b)⁻¹*((htQ w a b t.1-htQ w a b t.2)*(l t.1-l t.2))+((hiQ w a b)⁻¹*(hiQ w a b)⁻¹)*((htQ w a b t.1-htQ w a b t.2)*(htQ w a b t.1-htQ w a b t.2))) t):=aL λ t _=>by grind
 rw[e,xx,xx,p1,ev];generalize (w.2.map λ t=>(l t.1-l t.2)*(l t.1-l t.2)).sum=x;generalize hiQ w a b=r at *;grind
theorem Good.MB (tr:w.2.length+1=w.1){a b:Nat}(ha:a<w.1)(hb:b<w.1):hiQ w a b=(ds w.2 a b:Rat):=by
 have mp:0<2*w.2.length:=by have:=de.mpr g.ne;lia
 have mq:((2*w.2.length:Nat):Rat)≠0:=by have:(0:Rat)<((2*w.2.length:Nat):Rat):=fR.mpr mp;grind
 have h1:=g.MA ha hb;rw[g.Oe tr hb ha,g.Oe tr ha hb,<-gR,g.Mt tr hb a ha,g.rK hb ha]at h1;have e:((2*(w.2.length:Int)*(ds w.2 a b:Int):Int):Rat)=((2*w.2.length:Nat):Rat)*(ds w.2 a b:Rat):=by
  have:(2*(w.2.length:Int)*(ds w.2 a b:Int):Int)=((2*w.2.length*ds w.2 a b:Nat):Int):=by simp
  rw[this,df,Rat.natCast_mul]
 rw[e]at h1;have h3:((2*w.2.length:Nat):Rat)*(hiQ w a b-(ds w.2 a b:Rat))=0:=by grind
 rcases gQ.mp h3 with z | z
 ·exact absurd z mq
 ·grind
end
def dD (d:Dt):g6 hG:=(PQ d).bind λ kvs=>if kd (kvs.map λ q=>(q.1.toNat,q.2.toNat))=kvs then kb (kvs.map λ q=>(q.1.toNat,q.2.toNat)) else My
@[simp] theorem U4 (fd:hG):dD (.dct (kd fd))=kb fd:=by
 have e:(kd fd).map (λ q=>(q.1.toNat,q.2.toNat))=fd:=by
  unfold kd;rw[aR];conv=>rhs;rw[<-fM fd]
  exact aL λ q _=>by simp
 show(if kd ((kd fd).map λ q=>(q.1.toNat,q.2.toNat))=kd fd then kb ((kd fd).map λ q=>(q.1.toNat,q.2.toNat)) else My)=_;rw[e,ae rfl]
theorem xB (a b:Nat×Nat):dEq (iq a) (iq b)=(a==b):=by
 have:dEq (iq a) (iq b)=(((a.1:Int)==(b.1:Int))&&(((a.2:Int)==(b.2:Int))&&V0)):=by simp[iq,h_,dEq,kM]
 rw[this,mT,mT,Bool.and_true];rfl
def dT (d:Dt):g6 Web:=(dW d).bind λ w=>if w.2.length+1=w.1 then kb w else My
theorem Qq {d:Dt}{w:Web}(h:dT d=kb w):dW d=kb w/\w.2.length+1=w.1:=by
 obtain⟨v,e,h⟩:=hZ h;by_cases hc:v.2.length+1=v.1
 ·rw[ae hc]at h;cases h;exact⟨e,hc⟩
 ·rw[ag hc]at h;cases h
theorem Qr {w:Web}(g:Good w)(t:w.2.length+1=w.1):dT (ip w)=kb w:=by show(dW (ip w)).bind _=_;rw[j7 g,af,ae t]
def tE:List Dt->g6 Dt:=sJ λ x=>(dT x).map λ _=>.non
theorem JV {x:Dt}{w:Web}(e:dT x=kb w):tE [x]=kb .non:=by show(dT x).map _=_;rw[e];rfl
end L2
namespace L2
open PySem PySem.Spec PyProof.Rows Zp
def vb (t:Bool)(l:Addr)(h:Heap):Heap:=(h.push (mh t l)).push {cls:=.type "enumerate",data:=.fields #[.none,.bool V1,.ref h.objs.size,rawInt 0,.none,.none]}
set_option tactic.hygienic true in
theorem MC (t:Bool)(l:Addr)(xs:Array g_) :
  Meets (Builtin.«enumerate.__new__» ⟨[.type "enumerate",.ref l],[]⟩) (λ _ R s=>IsB t s.heap l xs/\R (.ok (.ret (.ref (s.heap.objs.size+1)))) {s with heap:=vb t l s.heap}) :=
 .of_wp λ prog w A R s h=>by
  obtain⟨hp,g,d,tk,os⟩:=s;obtain⟨hl,h⟩:=h;have hsub:=sub_enumerate;have hL:IsB t (Shared.heap ⟨hp,g,d,tk,os⟩) l xs:=hl;have h:R (.ok (.ret (.ref ((hp.push (mh t l)).objs.size)))) ⟨vb t l hp,g,d,tk,os⟩:=by rw[cn];exact h
  cases t with
  | true =>
   obtain⟨ot,gt,_,nt,dt⟩:=id hl
   wp_walk using bN gt,ra hL
   refine wpAny_stack_any λ st=>ah ?_;split
   ·rename_i c _ _ _ _ _
    cases (c==Value.type "enumerate")
    ·wp_walk using bN gt,ra hL
     exact⟨_,rfl,h⟩
    ·wp_walk using bN gt,ra hL
     exact⟨_,rfl,h⟩
   ·wp_walk using bN gt,ra hL
    exact⟨_,rfl,h⟩
  | false =>
   obtain⟨ot,gt,_,nt,dt⟩:=id hl
   wp_walk using bN gt,ra hL
   refine wpAny_stack_any λ st=>ah ?_;split
   ·rename_i c _ _ _ _ _
    cases (c==Value.type "enumerate")
    ·wp_walk using bN gt,ra hL
     exact⟨_,rfl,h⟩
    ·wp_walk using bN gt,ra hL
     exact⟨_,rfl,h⟩
   ·wp_walk using bN gt,ra hL
    exact⟨_,rfl,h⟩
def Ite (t:Bool)(K:g9)(a:Addr):It :=
  ⟨λ i H=>∃ xs,SqB t K H a xs/\i<xs.length,
   λ i H v H'=>∃ p x,v=.ref p/\H p=My/\H'=upd H p (.tup [.int i,x])/\∀ xs,SqB t K H a xs->xs[i]?=kb x,
   λ i H=>∃ xs,SqB t K H a xs/\i=xs.length⟩
def tne (t:Bool)(a e it:Addr)(k:Nat)(h:Heap):Prop:=(∃ old,IsEnum h e it k old)/\ItB t h it a k
theorem G0 {P:Program}{w:World}{K:g9}{elts:List Expr}{kk:Nat}{ps:Pos}(t:Bool)(a e it:Addr)(ne:e≠it):Turn P w K (.Tuple elts kk ps) (Ite t K a) [e,it] e (tne t a e it) where
 mem:=by simp
 obj:=λ k h st c hc=>by
  obtain⟨⟨old,he⟩,h1⟩:=st;simp only[aG,cE,or_false]at hc;rcases hc with rfl | rfl
  ·exact⟨_,he,λ v q=>by cases q⟩
  ·exact h1.obj
 keep:=λ k h h' st kp=>by obtain⟨⟨old,he⟩,h1⟩:=st;exact⟨⟨old,kp e (by simp) _ he⟩,h1.keep λ o q=>kp it (by simp) o q⟩
 item:=by
  intro X hP hw hK hc k pins s σ H E I hf st hg;subst hP hw hK;obtain⟨xs,hq1,hk1⟩:=hg;obtain⟨⟨old,he⟩,h1⟩:=st;obtain⟨its1,rv1,p1,_⟩:=I.oO hq1;obtain⟨oi,gi,ci,ci'⟩:=ItB.cls (t:=t) (h:=s.heap) (j:=it) (a:=a) (k:=k) h1;have hl1:=rv1.length;have na:=ue I hf hq1;refine wpAny_pyNext_enum_itemD (ud (prog:=X.prog) (w:=X.w) (A:=X.A.in1) (t:=t) (show X.A.in1.handled=My from I.ok.hd hc) it a (na it (by simp)) its1.toArray) he ⟨h1,p1⟩ (by simp;lia) ne (by simp[ne,aY (na e (by simp))]) ?_;intro x h' tk px ho s1 hT hsz kp;generalize hN0:s.heap.objs.size=N at ho hT hsz ⊢;have hN:s.heap.objs.size<=N:=fg hN0;refine⟨.ref N,rfl,?_⟩;have I1:Inv X pins σ H {s with heap:=h',toks:=tk+1}:=I.qF (fp:=[e,it]) (λ c o hc' q=>kp c o (λ z=>hc' (by simp[z])) (λ z=>hc' (by simp[z])) q) hf;have hxk:xs[k]?=kb (xs[k]'hk1):=by simp[hk1]
  obtain⟨u1,e1,r1⟩:=rv1.get hxk;have px':its1[k]?=kb x:=by simpa using px
  rw[e1]at px';cases px';have hNn:H N=My:=I.hok.fresh hN;have I2:Inv X pins σ (upd H N (.tup [.int k,xs[k]])) {s with heap:=h',toks:=tk+1}:=I1.zd hNn (bg I.sz hN) (bR (aB I.lt hN)) (λ x c e q=>by
    obtain⟨v,o,ho,_⟩:=I.cell x c e;exact absurd (aw ho) (by rw[q];exact ed.mpr hN)) (λ p hp q=>absurd (aw (I.pin p hp).1) (by rw[q];exact ed.mpr hN))
   ⟨⟨by rw[sizeLine_eq];simp,_,hT,rfl⟩,[.int k tk,x],.cons ⟨_,rfl⟩ (.cons r1 .nil),⟨_,hT,rfl,0,rfl⟩⟩
  have nfp:∀ q∈[e,it],q≠N:=λ q hq z=>by
   have:q<s.heap.objs.size:=by
    simp only[aG,cE,or_false]at hq;rcases hq with rfl | rfl
    ·exact aw he
    ·exact aw gi
   rw[z]at this;exact aX _ (aB this hN)
  have hf2:∀ q∈[e,it],pO X pins (upd H N (.tup [.int k,xs[k]])) q:=λ q hq=>⟨by rw[iI (nfp q hq)];exact(hf q hq).1,(hf q hq).2⟩;refine wpAny_letOwnedTupleGo_enum ho λ h2' he2 sb=>?_;refine⟨.ref N,_,I2.qF (t':=tk+1) (fp:=[e,it]) (λ c o hc' q=>sb.extBut _ _ (λ z=>hc' (by simp[z])) q) hf2,rfl,⟨N,_,rfl,hNn,rfl,λ zs hs=>?_⟩,⟨⟨_,by simpa using he2⟩,s1.1.keep λ o q=>sb.extBut _ _ (aY ne) q⟩,λ q hq=>(hf2 q hq).1⟩;rw[I.wW hs hq1];exact hxk
 done:=by
  intro X hP hw hK hc k pins s σ H E I hf st hg;subst hP hw hK;obtain⟨xs,hq1,hk⟩:=hg;obtain⟨⟨old,he⟩,h1⟩:=st;obtain⟨its1,rv1,p1,_⟩:=I.oO hq1;have hl1:=rv1.length;have na:=ue I hf hq1;have hk':k=its1.toArray.size:=by simp;lia
  subst hk';refine wpAny_pyNext_enum_endD (ud (prog:=X.prog) (w:=X.w) (A:=X.A.in1) (t:=t) (show X.A.in1.handled=My from I.ok.hd hc) it a (na it (by simp)) its1.toArray) he ⟨h1,p1⟩ ?_;intro h' kp;exact⟨rfl,I.qF (t':=s.toks) (fp:=[e,it]) (λ c o hc' q=>kp c o (λ z=>hc' (by simp[z])) q) hf⟩
 self:=λ _ _ _ _ _ st h=>by obtain⟨⟨old,he⟩,_⟩:=st;exact wpAny_pyIter_enum he h
section
variable {X:Cx}{a:Expr}{pos:Pos}
theorem MD {ta:TA}{elts:List Expr}{kk:Nat}{ps p:Pos}(t:Bool)(hg:Gl X "enumerate")(hm:X.mg "enumerate"=My)(ha:PA X [a] ta)(hs:starEach [a] X.env=[(V1,eval a X.env)]:=by rfl)(hv:bootBuiltins "enumerate"=kb (.type "enumerate"):=by rfl) :
  PI X (.Tuple elts kk ps) (.Call (.Name "enumerate" p) [a] [] pos) (λ σ H R=>ta σ H λ vs H1=>∃ x,vs=[.ref x]/\(∃ xs,SqB t X.K H1 x xs)/\R (Ite t X.K x) H1):=by
 intro pins s σ H R I h;refine Call_ (rq I hg hm hv (cF (thn (ha pos pins s σ H _ I h) λ us s1 ⟨vs,H1,I1,r1,q1⟩=>?_) hs rfl));obtain⟨x,rfl,⟨xs,hx⟩,q⟩:=q1;obtain⟨u,rfl,ru⟩:=vals1 r1;cases ru;obtain⟨its1,_,p1,_⟩:=I1.oO hx;refine callType_new F.called_enumerate (by decide) (F.typeCall_enumerate_1 _) (F.newCall_enumerate_1 _) (λ obj=>F.args_object_init_2 obj _) F.entry_enumerate_new (MC t x its1.toArray) ⟨p1,?_⟩;have old:∀ b o,s1.heap.get? b=kb o->(vb t x s1.heap).get? b=kb o:=λ b o e=>ai _ (ai _ e);have fr:(mh t x).isFreed=V1:=by cases t<;>rfl
 have g1:(vb t x s1.heap).get? s1.heap.objs.size=kb (mh t x):=ai _ (aK _ fr);have g2:IsEnum (vb t x s1.heap) (s1.heap.objs.size+1) s1.heap.objs.size ((0:Nat):Int) .none:=by have:(vb t x s1.heap).get? (s1.heap.push (mh t x)).objs.size=kb {cls:=.type "enumerate",data:=.fields #[.none,.bool V1,.ref s1.heap.objs.size,rawInt 0,.none,.none]}:=aK _ rfl;rw[cn]at this;exact this
 show _/\_;refine⟨⟨_,g2,rfl⟩,wpAny_pyIter_enum (s:={s1 with heap:=vb t x s1.heap}) g2 ?_⟩;have I2:Inv X pins σ H1 {s1 with heap:=vb t x s1.heap}:=I1.kept (t':=s1.toks) old;refine⟨_,[s1.heap.objs.size+1,s1.heap.objs.size],_,_,H1,rfl,I2,G0 t x (s1.heap.objs.size+1) s1.heap.objs.size (nn (by lia)),⟨⟨_,g2⟩,?_⟩,λ c hc=>?_,q⟩
 ·cases t with
  | true=>exact⟨_,g1,rfl,rfl⟩
  | false=>exact⟨_,g1,rfl,rfl⟩
 have hc:s1.heap.objs.size<=c:=by
  simp only[aG,cE,or_false]at hc;rcases hc with rfl | rfl
  ·exact dZ _ _
  ·exact aq _
 exact I1.HN hc (I1.hok.fresh hc)
def JW (t:Bool):List Dt->g6 (List Dt)
 | [x]=>(itB t x).map λ xs=>xs.zipIdx.map λ p=>.tup [.int p.2,p.1]
 | _=>My
def xC (t:Bool)(gs:DE->g6 (List Dt)):DE->g6 (List Dt):=λ δ=>(gs δ).bind (JW t)
theorem ME {gs:DE->g6 (List Dt)}{elts:List Expr}{kk:Nat}{ps p:Pos}(t:Bool)(hm:X.mg "enumerate"=My)(ha:PDs X [a] gs)(hg:Gl X "enumerate":=by rfl)(hs:starEach [a] X.env=[(V1,eval a X.env)]:=by rfl)
  (hv:bootBuiltins "enumerate"=kb (.type "enumerate"):=by rfl):PI X (.Tuple elts kk ps) (.Call (.Name "enumerate" p) [a] [] pos) (iD X.K (xC t gs)) :=
 (MD t hg hm ha hs hv).of λ σ H R hz7=>by
  obtain⟨δ,ds,S,q,k⟩:=hz7;obtain⟨x,e1,e2⟩:=hZ q;match x,e2 with
  | [x],e2 =>
   obtain⟨xs,f1,e2⟩:=iP (show(itB t x).map _=_ from e2);subst e2;refine⟨δ,_,S,e1,λ vs H1 s1 i1=>?_⟩;cases i1 with
   | cons i1 i3 =>
    cases i3;obtain⟨c,vs1,rfl,q1,is1⟩:=Ac f1 i1;refine⟨c,rfl,⟨_,q1⟩,k _ H1 s1 λ H2 s2=>⟨λ i dd hd=>?_,⟨vs1,s2.oO q1,?_⟩⟩⟩
    ·rw[aD,List.getElem?_zipIdx]at hd
     cases hz:xs[i]? with
     | none=>rw[hz]at hd;cases hd
     | some pr =>
      rw[hz]at hd;cases hd;obtain⟨v1,g1,j1⟩:=is1.get hz;refine⟨⟨vs1,s2.oO q1,(a_.mp g1).1⟩,?_⟩;rintro v H3 ⟨p,a1,rfl,hp,rfl,r1⟩;have w1:=r1 vs1 (s2.oO q1);rw[g1]at w1;cases w1;refine⟨iA.upd hp,.tup (SqT.of ir) (.cons ?_ (.cons ((j1.ext s2).ext (iA.upd hp)) .nil))⟩;have:((0+i:Nat):Int)=(i:Int):=by lia
      rw[this];exact .int _
    ·have l1:=is1.length;simp only[ak,List.length_zipIdx];lia
end
end L2
namespace L2
open PySem PySem.Spec PyProof.Rows
theorem Ay (elt t1 i1 t2 i2:Expr)(f1 f2:List Expr)(scope:Scope)(pos:Pos)(it acc:g_)(env:Env) :
  compTurn (.ListComp elt [⟨t1,i1,f1,0⟩,⟨t2,i2,f2,0⟩] scope pos) 0 it acc env=(do
   standAt i1.pos
   match<-pyNext it with
   | none=>pure (.done .next)
   | some v =>
    letOwnedTupleGo t1 it v
    assign t1 env v
    let mut ok:=V0
    for c in f1 do
     if ok then ok<-isTrue c env (eval c env)
    if ok then
     let x<-eval i2 env
     standAt i2.pos
     let x<-foldedSetIterable i2 env x;let _<-runOwn (.compStart (.ListComp elt [⟨t1,i1,f1,0⟩,⟨t2,i2,f2,0⟩] scope pos) 1 (<-holding [x] (pyIter x)) acc env) env
    again (.compLoop (.ListComp elt [⟨t1,i1,f1,0⟩,⟨t2,i2,f2,0⟩] scope pos) 0 it acc env)):=by rfl
theorem Az (elt t1 i1 t2 i2:Expr)(f1 f2:List Expr)(scope:Scope)(pos:Pos)(it acc:g_)(env:Env) :
  compTurn (.ListComp elt [⟨t1,i1,f1,0⟩,⟨t2,i2,f2,0⟩] scope pos) 1 it acc env=(do
   standAt i2.pos
   match<-pyNext it with
   | none=>pure (.done .next)
   | some v =>
    letOwnedTupleGo t2 it v
    assign t2 env v
    let mut ok:=V0
    for c in f2 do
     if ok then ok<-isTrue c env (eval c env)
    if ok then
     (do let _<-call (.builtin "list.append") [acc,<-eval elt env])
    again (.compLoop (.ListComp elt [⟨t1,i1,f1,0⟩,⟨t2,i2,f2,0⟩] scope pos) 1 it acc env)):=by rfl
section
variable {prog:Program}{w:World}{A:Around}{R:Result->hE->Prop}{s:hE}{elt t1 i1 t2 i2:Expr}{f1 f2:List Expr}{scope:Scope}{pos:Pos}{it acc:g_}{env:Env}
theorem nox {α:Type}{t:Sem α}{Q Q':α->hE->Prop}{E:g0}{s:hE}(h:wpAny (model prog w) A t Q (λ _ _=>False) s)(hq:∀ a s,Q a s->Q' a s):wpAny (model prog w) A t Q' E s:=cv h hq λ _ _ z=>z.elim
theorem AA (I:Nat->hE->Prop)
  (turn:∀ n s,I n s->wpAny (model prog w) A (pyNext it) (λ r s₁=>match r with
   | none=>R (.ok .next) s₁
   | some v=>wpAny (model prog w) A (letOwnedTupleGo t2 it v) (λ _ s₁'=>wpAny (model prog w) A (assign t2 env v) (λ _ s₂ =>
     wpAny (model prog w) A (forIn f2 V0 λ c r=>if r=V0 then do let ok<-isTrue c env (eval c env);pure (ForInStep.yield ok) else pure (ForInStep.yield r)) (λ ok s₃ =>
      if ok=V0 then wpAny (model prog w) A (eval elt env) (λ x s₄ =>wpAny (model prog w) A (call (.builtin "list.append") [acc,x]) (λ _ s₅=>∃ m,m<n/\I m s₅) (λ _ _=>False) s₄) (λ _ _=>False) s₃
      else ∃ m,m<n/\I m s₃) (λ _ _=>False) s₂) (λ _ _=>False) s₁') (λ _ _=>False) s₁) (λ _ _=>False) s)
  (n:Nat) (h:I n s) :
  codeAny (model prog w) A (.compLoop (.ListComp elt [⟨t1,i1,f1,0⟩,⟨t2,i2,f2,0⟩] scope pos) 1 it acc env) R s:=by
 refine codeAny_loop rfl I (λ n s hI=>?_) n h;show wpAny _ A ((compTurn (.ListComp elt [⟨t1,i1,f1,0⟩,⟨t2,i2,f2,0⟩] scope pos) 1 it acc env).onRaise (λ x=>do noteFrame x env;theTreesLotGoes x)) _ _ s;refine wpAny_noted ?_;rw[Az];refine aa (cU (aa (nox (turn n s hI) λ r s₁ h₁=>?_)));cases r with
 | none=>exact ah h₁
 | some v =>
  refine aa (nox h₁ λ _ s₁' h₁'=>aa (nox h₁' λ _ s₂ h₂=>aa (nox h₂ λ ok s₃ h₃=>?_)));cases ok with
  | false=>exact ah ⟨rfl,h₃⟩
  | true=>exact aa (aa (nox h₃ λ x s₄ h₄=>aa (nox h₄ λ _ s₅ h₅=>ah (ah ⟨rfl,h₅⟩))))
theorem AB (I:Nat->hE->Prop)(hs:∀ x,foldedSetIterable i2 env x=pure x)
  (turn:∀ n s,I n s->wpAny (model prog w) A (pyNext it) (λ r s₁=>match r with
   | none=>R (.ok .next) s₁
   | some v=>wpAny (model prog w) A (letOwnedTupleGo t1 it v) (λ _ s₁'=>wpAny (model prog w) A (assign t1 env v) (λ _ s₂ =>
     wpAny (model prog w) A (forIn f1 V0 λ c r=>if r=V0 then do let ok<-isTrue c env (eval c env);pure (ForInStep.yield ok) else pure (ForInStep.yield r)) (λ ok s₃ =>
      if ok=V0 then wpAny (model prog w) A (eval i2 env) (λ x s₄=>wpAny (model prog w) A (pyIter x) (λ jt s₅ =>codeAny (model prog w) A (.compStart (.ListComp elt [⟨t1,i1,f1,0⟩,⟨t2,i2,f2,0⟩] scope pos) 1 jt acc env) (λ r s₆=>r=.ok .next/\∃ m,m<n/\I m s₆) s₅) (λ _ _=>False) s₄) (λ _ _=>False) s₃
      else ∃ m,m<n/\I m s₃) (λ _ _=>False) s₂) (λ _ _=>False) s₁') (λ _ _=>False) s₁) (λ _ _=>False) s)
  (n:Nat) (h:I n s) :
  codeAny (model prog w) A (.compLoop (.ListComp elt [⟨t1,i1,f1,0⟩,⟨t2,i2,f2,0⟩] scope pos) 0 it acc env) R s:=by
 refine codeAny_loop rfl I (λ n s hI=>?_) n h;show wpAny _ A ((compTurn (.ListComp elt [⟨t1,i1,f1,0⟩,⟨t2,i2,f2,0⟩] scope pos) 0 it acc env).onRaise (λ x=>do noteFrame x env;theTreesLotGoes x)) _ _ s;refine wpAny_noted ?_;rw[Ay];refine aa (cU (aa (nox (turn n s hI) λ r s₁ h₁=>?_)));cases r with
 | none=>exact ah h₁
 | some v =>
  refine aa (nox h₁ λ _ s₁' h₁'=>aa (nox h₁' λ _ s₂ h₂=>aa (nox h₂ λ ok s₃ h₃=>?_)));cases ok with
  | false=>exact ah ⟨rfl,h₃⟩
  | true =>refine aa (nox h₃ λ x s₄ h₄=>aa (cU (aa (wpAny_of_eq (hs x) (aa (bT (nox h₄ λ jt s₅ h₅=>?_)))))));refine aa (wpAny_runOwn (h:=My) (show codeAny (model prog w) A _ _ _ from codeAny_mono h₅ λ r s₆ h₆=>?_));obtain⟨e,h₆⟩:=h₆;subst e;exact ah ⟨rfl,h₆⟩
theorem yE (h0:codeAny (model prog w) A (.compLoop (.ListComp elt [⟨t1,i1,f1,0⟩,⟨t2,i2,f2,0⟩] scope pos) 1 it acc env) R s)
  (h:wpAny (model prog w) A (pyIter it) (λ it' s'=>codeAny (model prog w) A (.compLoop (.ListComp elt [⟨t1,i1,f1,0⟩,⟨t2,i2,f2,0⟩] scope pos) 1 it' acc env) R s') (notedBy (model prog w) A env λ x s'=>R (.error x) s') s) :
  codeAny (model prog w) A (.compStart (.ListComp elt [⟨t1,i1,f1,0⟩,⟨t2,i2,f2,0⟩] scope pos) 1 it acc env) R s:=by
 refine codeAny_of_tree ?_;show wpAny _ _ ((compStart (.ListComp elt [⟨t1,i1,f1,0⟩,⟨t2,i2,f2,0⟩] scope pos) 1 it acc env).onRaise (λ x=>do noteFrame x env;standAt theWindowsPlace)) _ _ s;refine wpAny_notedAt ?_;unfold compStart;show wpAny _ _ (ask>>=_) _ _ s;refine aa (fy (wpAny_ite ?_));split
 ·first
   | exact aa (ah (ah (And.intro rfl h0)))
   | exact ah (And.intro rfl h0)
 ·first
   | exact aa (fu (aa (cU (aa (cv h (λ it' s' h'=>ah (And.intro rfl h')) λ _ _ x=>x)))))
   | (refine aa (fu ?_);show wpAny _ _ (standAt i2.pos>>=_) _ _ s;exact aa (cU (aa (cv h (λ it' s' h'=>ah (And.intro rfl h')) λ _ _ x=>x))))
end
def Sq (X:Cx)(pins:hJ)(D:Addr):Prop:=D≠X.env.locals/\D∉X.fs/\(D∈X.ex\/X.s₀.heap.objs.size<=D)/\(∀ x c,X.env.cells.lookup x=kb c->c≠D)/\∀ p∈X.pn++pins,p.1≠D
def Co (g:TG)(σ:St):Prop:=∀ x H (Q:St->Hp->Prop),g x σ H Q->g x σ H λ σ2 H2=>(∀ (j:Nat) (v:V),σ[j]?=kb (kb v)->σ2[j]?=kb (kb v))/\σ2.length=σ.length/\Q σ2 H2
section
variable {X:Cx}{pins:hJ}{σ:St}{H:Hp}{s:hE}{tg iter elt t1 i1:Expr}{ifs f1:List Expr}{scope:Scope}{pos:Pos}{g:TG}{tc:TT}{te:TE}
theorem JX (I:Inv X pins σ H s)(hc:X.calm=V0)(hx:X.xe=λ _ _=>False){J:It}{fp:List Addr}{it:Addr}{tn:Nat->Heap->Prop}(T:Turn X.prog X.w X.K tg J fp it tn)(st:tn 0 s.heap)(hf:∀ b∈fp,pO X pins H b)
  {D:Addr} {its:Array g_} {ys:List V} (acc:s.heap.PlainList D its) (rv:Vals ys its.toList) (hD:H D=My) (fD:Sq X pins D) (nfp:D∉fp) (hz:ys.length<=sizeLine)
  (hg:PG X tg g) (hgk:Co g σ) (ht:PF X ifs tc) (he:PE X elt te) {Ko:List V->Hp->Prop} {V':Nat->Nat->List V->Hp->Prop} {m0:Nat} (w0:V' 0 m0 ys H) (turn:∀ i m ys H,V' i m ys H ->
   (J.stop i H/\Ko ys H) \/
   (J.go i H/\ys.length<sizeLine/\∀ x H',J.yld i H x H'->g x σ H' λ σ2 H2=>tc σ2 H2 λ b H3=>if b=V0 then te σ2 H3 λ y H4=>∃ m',m'<m/\V' (i+1) m' (ys++[y]) H4 else ∃ m',m'<m/\V' (i+1) m' ys H3))
  {R:Result->hE->Prop} (fin:∀ ys its H' s',Inv X pins σ H' s'->s'.heap.PlainList D its->Vals ys its.toList->ys.length<=sizeLine->H' D=My->Ko ys H'->R (.ok .next) s') :
  codeAny (model X.prog X.w) X.A (.compStart (.ListComp elt [⟨t1,i1,f1,0⟩,⟨tg,iter,ifs,0⟩] scope pos) 1 (.ref it) (.ref D) X.env) R s:=by
 obtain⟨fL,fF,fE,fC,fP⟩:=fD;have loop:codeAny (model X.prog X.w) X.A (.compLoop (.ListComp elt [⟨t1,i1,f1,0⟩,⟨tg,iter,ifs,0⟩] scope pos) 1 (.ref it) (.ref D) X.env) R s:=by
  refine AA (λ n s'=>∃ i ys its H',Inv X pins σ H' s'/\s'.heap.PlainList D its/\Vals ys its.toList/\H' D=My/\tn i s'.heap/\(∀ b∈fp,H' b=My)/\ys.length<=sizeLine/\V' i n ys H') ?_ m0 ⟨0,ys,its,H,I,acc,rv,hD,st,λ b hb=>(hf b hb).1,hz,w0⟩;clear rv acc w0 hz st hD I;rintro n s' ⟨i,ys,its,H',I',acc',rv,hD',st',fr',hz,w'⟩;obtain⟨na,ha⟩:=id acc';have I1:Inv X (pins++[(D,{cls:=.type "list",data:=.seq its na})]) σ H' s':=I'.mj λ p hp=>by
   rcases bh.mp hp with hp | hp
   ·exact I'.pin p (ao _ hp)
   ·have e:p=(D,({cls:=.type "list",data:=.seq its na}:Obj)):=by simpa using hp
    subst e;exact⟨ha,hD',fL,fF,λ v z=>by cases z⟩
  have fpO:∀ (H':Hp),(∀ b∈fp,H' b=My)->∀ b∈fp,pO X (pins++[(D,({cls:=.type "list",data:=.seq its na}:Obj))]) H' b:=λ H' hn b hb=>by
   obtain⟨_,q2,q3,q4,q5,q6⟩:=hf b hb;refine⟨hn b hb,q2,q3,q4,q5,λ p hp z=>?_⟩;rcases bh.mp hp with hp | hp
   ·exact q6 p (aM _ hp) z
   ·rcases bh.mp hp with hp | hp
    ·exact q6 p (ao _ hp) z
    ·have e:p=(D,({cls:=.type "list",data:=.seq its na}:Obj)):=by simpa using hp
     rw[e]at z;exact nfp ((show D=b from z)▸hb)
  rcases turn i n ys H' w' with⟨stop,qn⟩ | ⟨go,hys,step⟩
  ·refine thn (T.done X rfl rfl rfl hc i _ s' _ H' _ I1 (fpO H' fr') st' stop) λ r s1 ⟨hr,I2⟩=>?_;subst hr;have hD1:=(I2.pin (D,_) (ao _ (ao _ (aN.mpr rfl)))).1;exact fin ys its H' s1 I2.nU ⟨na,hD1⟩ rv hz hD' qn
  ·refine thn (T.item X rfl rfl rfl hc i _ s' _ H' _ I1 (fpO H' fr') st' go) λ r s1 ⟨u,hr,h1⟩=>?_
   subst hr;refine thn h1 λ _ s2 ⟨x,H2',I2,r2,y2,st2,fr2⟩=>?_;have I2':=I2.pinned (fpO H2' fr2) (T.obj _ _ st2);have nx:∀ {α:Type} {t:Sem α} {Q Q':α->hE->Prop} {s:hE},wpAny (model X.prog X.w) X.A t Q X.xe s->(∀ a s,Q a s->Q' a s)->wpAny (model X.prog X.w) X.A t Q' (λ _ _=>False) s:=λ h hq=>cv h hq λ _ _ z=>by rw[hx]at z;exact z
   refine nx (hg _ s2 _ H2' x u _ I2' r2 (hgk _ _ _ (step x H2' y2))) λ _ s3 ⟨σ3,H3,I3,own3,len3,q3⟩=>?_;refine nx (ht _ s3 σ3 H3 _ I3 q3) λ ok s4 ⟨H4,I4,q4⟩=>?_;have again:∀ {H5:Hp} {s5:hE} {ys':List V} {its':Array g_} {n':Nat},Inv X ((pins++[(D,({cls:=.type "list",data:=.seq its na}:Obj))])++lN fp s2.heap) σ3 H5 s5->V' (i+1) n' ys' H5->Vals ys' its'.toList->ys'.length<=sizeLine ->
     ∀ h',(∀ b o,b≠D->s5.heap.get? b=kb o->h'.get? b=kb o)->h'.PlainList D its'->∃ i ys its H',Inv X pins σ H' {s5 with heap:=h'}/\h'.PlainList D its/\Vals ys its.toList/\H' D=My/\tn i h'/\(∀ b∈fp,H' b=My)/\ys.length<=sizeLine/\V' i n' ys H':=by
    intro H5 s5 ys' its' n' I5 w5 rv5 hz5 h' k5 a5;have hD5:H5 D=My:=(I5.pin (D,_) (ao _ (aM _ (ao _ (aN.mpr rfl))))).2.1;have I6:Inv X pins σ H5 s5:=(I5.weak len3.symm own3).nU.nU;refine⟨i+1,ys',its',H5,I6.turned (t':=s5.toks) k5 hD5 fL fE fC fP,a5,rv5,hD5,T.keep _ _ _ st2 λ b hb o e=>k5 b o (λ z=>nfp (z▸hb)) (I5.pin (b,o) (ao _ (ao _ (jV hb e)))).1,λ b hb=>?_,hz5,w5⟩;obtain⟨o,e,d⟩:=T.obj _ _ st2 b hb;exact(I5.pin (b,o) (ao _ (ao _ (jV hb e)))).2.1
   have pinD:∀ {H5:Hp} {s5:hE},Inv X ((pins++[(D,({cls:=.type "list",data:=.seq its na}:Obj))])++lN fp s2.heap) σ3 H5 s5->s5.heap.PlainList D its:=λ I5 =>⟨na,(I5.pin (D,_) (ao _ (aM _ (ao _ (aN.mpr rfl))))).1⟩
   cases ok with
   | false =>rw[ag ax]at q4;rw[ag ax];obtain⟨m',hm',w4⟩:=q4;exact⟨m',hm',again I4 w4 rv hz s4.heap (λ _ _ _ e=>e) (pinD I4)⟩
   | true =>rw[ae rfl]at q4;rw[ae rfl];refine nx (he _ s4 σ3 H4 _ I4 q4) λ y s5 ⟨v,H5,I5,r5,m',hm',w5⟩=>?_;have hl:=rv.length;refine wpAny_list_append_plain (hsz:=by simp at hl;lia) (pinD I5) λ h6 hl6 hs6=>?_;refine⟨m',hm',again I5 w5 (its':=its.push y) ?_ (by rw[aQ,cy];lia) h6 (λ b o hb e=>hs6.extBut b o hb e) hl6⟩;rw[gw];exact gq rv r5
 exact yE loop (T.self _ 0 _ _ _ st loop)
end
def tIn (wi2:TI)(g2:TG)(tc2:TT)(te:TE)(σ2:St)(ys:List V)(Ko:List V->Hp->Prop)(H:Hp):Prop:=wi2 σ2 H λ J2 H4=>∃ V':Nat->Nat->List V->Hp->Prop,(∃ m2,V' 0 m2 ys H4)/\∀ j m2 zs H,V' j m2 zs H ->
 (J2.stop j H/\Ko zs H) \/
 (J2.go j H/\zs.length<sizeLine/\∀ x H',J2.yld j H x H'->g2 x σ2 H' λ σ3 H5=>tc2 σ3 H5 λ b H6=>if b=V0 then te σ3 H6 λ y H7=>∃ m3,m3<m2/\V' (j+1) m3 (zs++[y]) H7 else ∃ m3,m3<m2/\V' (j+1) m3 zs H6)
def Sr (own:List Str)(ix:List Nat)(wi:TI)(g:TG)(tc:TT)(wi2:TI)(g2:TG)(tc2:TT)(te:TE):TE:=λ σ H Q=>wi σ H λ J H1=>∃ W:Nat->Nat->List V->Hp->Prop,(∃ m,W 0 m [] H1)/\∀ i m ys H,W i m ys H ->
 (J.stop i H/\∀ p,H p=My->Q (.ref p) (upd H p (.lst ys))) \/
 (J.go i H/\∀ x H',J.yld i H x H'->g x (jo own ix σ) H' λ σ2 H2=>tc σ2 H2 λ b H3=>if b=V0 then tIn wi2 g2 tc2 te σ2 ys (λ zs H'=>∃ m',m'<m/\W (i+1) m' zs H') H3 else ∃ m',m'<m/\W (i+1) m' ys H3)
section
variable {X:Cx}{pins:hJ}{σ:St}{H:Hp}{s:hE}{own fr:List Str}{ix:List Nat}{scope:Scope}{tg iter elt tg2 iter2:Expr}{ifs ifs2:List Expr}{pos:Pos}{g g2:TG}{tc tc2:TT}{te:TE}{wi2:TI}
theorem G1 (I:Inv X pins σ H s)(hc:X.calm=V0)(S:kq X scope own fr ix){J:It}{fp:List Addr}{it:Addr}{tn:Nat->Heap->Prop}(T:Turn X.prog X.w X.K tg J fp it tn)(st:tn 0 s.heap)(hf:∀ b∈fp,pO X pins H b)
  (hg:∀ C,PG (X.comp (own++fr) scope C s H fp) tg g) {n1:Nat} (hn1:n1<=own.length) (hgo:yt n1 g) (ht:∀ C,PF (X.comp (own++fr) scope C s H fp) ifs tc) (hi2:∀ C,PI (X.comp (own++fr) scope C s H fp) tg2 iter2 wi2) (hs2:∀ C x,foldedSetIterable iter2 (compEnvC scope (qU scope X.env) C X.env) x=pure x) (hg2:∀ C,PG (X.comp (own++fr) scope C s H fp) tg2 g2) (hgk2:∀ σ2:St,(∀ j,n1<=j->j<own.length->σ2[j]?=kb My)->Co g2 σ2) (ht2:∀ C,PF (X.comp (own++fr) scope C s H fp) ifs2 tc2) (he:∀ C,PE (X.comp (own++fr) scope C s H fp) elt te)
  {Qe:VK} {W:Nat->Nat->List V->Hp->Prop} {m0:Nat} (w0:W 0 m0 [] H) (turn:∀ i m ys H,W i m ys H ->
   (J.stop i H/\∀ p,H p=My->Qe (.ref p) (upd H p (.lst ys))) \/
   (J.go i H/\∀ x H',J.yld i H x H'->g x (jo own ix σ) H' λ σ2 H2=>tc σ2 H2 λ b H3=>if b=V0 then tIn wi2 g2 tc2 te σ2 ys (λ zs H'=>∃ m',m'<m/\W (i+1) m' zs H') H3 else ∃ m',m'<m/\W (i+1) m' ys H3))
  {E:g0} {RR:g_->Addr->Result->hE->Prop}
  (fin:∀ D C s' H',Inv X pins σ H' s'->Qe (.ref D) H'->s.heap.objs.size<=C->H' C=My->(∃ m,s'.heap.Ns C m)->RR (.ref D) C (.ok .next) s') :
  wpAny (model X.prog X.w) X.A (newList []) (λ acc s₃=>wpAny (model X.prog X.w) X.A (newFunctionEnv scope X.env.globals (qU scope X.env) [] X.env.qual My .none (kb X.env)) (λ cenv s₄ =>codeAny (model X.prog X.w) X.A (.compStart (.ListComp elt [⟨tg,iter,ifs,0⟩,⟨tg2,iter2,ifs2,0⟩] scope pos) 0 (.ref it) acc {cenv with scope:=relabel scope X.env}) (RR acc cenv.locals) s₄) E s₃) E s:=by
 refine bL (wpAny_newFunctionEnv S.DD (by intro y hy;simp at hy) (λ h₁ hns₁ hsb₁=>?_) S.kind);dsimp only at hns₁ hsb₁ ⊢;generalize hH2:s.heap.push {cls:=.type "list",dict:=My,data:=.seq ([]:List g_).toArray}=H2 at hns₁ hsb₁ ⊢;have hC:H2.objs.size=s.heap.objs.size+1:=by rw[<-hH2,cn]
 have hDC:s.heap.objs.size≠H2.objs.size:=by rw[hC];exact aU (eJ _)
 have hCle:s.heap.objs.size<=H2.objs.size:=by rw[hC];exact gm _
 have below:∀ b,b<s.heap.objs.size->b≠H2.objs.size/\b≠s.heap.objs.size:=λ b hb=>⟨by rw[hC];exact aU (eD hb),aU hb⟩;have old:∀ b o,s.heap.get? b=kb o->h₁.get? b=kb o:=λ b o e=>hsb₁.extBut b o (below b (aw e)).1 (ai _ (hH2▸ai _ e));have hacc:h₁.PlainList s.heap.objs.size #[]:=⟨_,hsb₁.extBut _ _ hDC (ai _ (hH2▸aK _ rfl))⟩;have hlt:∀ b∈fp,b<s.heap.objs.size:=λ b hb=>by obtain⟨o,e,_⟩:=T.obj 0 s.heap st b hb;exact aw e
 generalize hDD:s.heap.objs.size=D,hCC:H2.objs.size=C at *;have hDs:s.heap.objs.size<=D:=fg hDD;have I0:Inv (X.comp (own++fr) scope C s H fp) [] (jo own ix σ) H {s with heap:=h₁,toks:=s.toks+([]:List (Str×g_)).length}:=I.enter S hf (by rw[hDD];exact hlt) (by rw[hDD];exact hCle) hns₁ old;have st0:tn 0 h₁:=T.keep 0 _ _ st λ b _ o e=>old b o e;have nfs:D∉frs X.stack:=λ z=>by obtain⟨_,o,ho,_⟩:=I.stack.mem z;exact absurd (aw ho) (by rw[hDD];exact aX _)
 have ncell:∀ x c,(qU scope X.env).lookup x=kb c->c≠D:=λ x c e z=>by obtain⟨v,q⟩:=I.cell x c (S.sub I.ok x c e);exact absurd q.lt (by rw[z,hDD];exact aX _)
 have nfp:D∉fp:=λ z=>aX _ (hlt D z);have fpS:∀ b∈fp,b∉frs X.stack:=λ b hb z=>by
  rcases aG.mp (I.tR b z) with q | q
  ·exact(hf b hb).2.1 q
  ·exact(hf b hb).2.2.1 q
 have fpO:∀ (pl:hJ) (H':Hp),(∀ p∈pl,p.1=D)->(∀ b∈fp,H' b=My)->∀ b∈fp,pO (X.comp (own++fr) scope C s H fp) pl H' b:=λ pl H' hpl hn b hb =>
  ⟨hn b hb,(below b (hlt b hb)).1,fpS b hb,.inl hb,λ x c e=>(hf b hb).2.2.2.2.1 x c (S.sub I.ok x c e),λ p hp z=>by
   have hp:p∈pl:=by simpa [Cx.comp] using hp
   rw[hpl p hp]at z;exact nfp (z▸hb)⟩
 have loop:∀ s₃:hE,s₃={s with heap:=h₁,toks:=s.toks+([]:List (Str×g_)).length} ->
   codeAny (model X.prog X.w) X.A (.compLoop (.ListComp elt [⟨tg,iter,ifs,0⟩,⟨tg2,iter2,ifs2,0⟩] scope pos) 0 (.ref it) (.ref D) (compEnvC scope (qU scope X.env) C X.env)) (RR (.ref D) C) s₃:=by
  rintro s₃ rfl;refine AB (hs:=hs2 C) (λ n s'=>∃ i ys its H',Inv (X.comp (own++fr) scope C s H fp) [] (jo own ix σ) H' s'/\s'.heap.PlainList D its/\Vals ys its.toList/\H' D=My/\tn i s'.heap/\(∀ b∈fp,H' b=My)/\ys.length<=sizeLine/\W i n ys H') ?_ m0
   ⟨0,[],#[],H,I0,hacc,.nil,I.hok.fresh hDs,st0,λ b hb=>(hf b hb).1,aZ _,w0⟩
  rintro n s' ⟨i,ys,its,H',I',acc',rv,hD',st',fr',hz,w'⟩;obtain⟨na,ha⟩:=id acc';have I1:Inv (X.comp (own++fr) scope C s H fp) [(D,{cls:=.type "list",data:=.seq its na})] (jo own ix σ) H' s':=I'.mj λ p hp=>by
   have e:p=(D,({cls:=.type "list",data:=.seq its na}:Obj)):=by simpa using hp
   subst e;exact⟨ha,hD',hDC,nfs,λ v z=>by cases z⟩
  have hpl:∀ p∈[(D,({cls:=.type "list",data:=.seq its na}:Obj))],p.1=D:=λ p hp=>by
   have e:p=(D,({cls:=.type "list",data:=.seq its na}:Obj)):=by simpa using hp
   rw[e]
  rcases turn i n ys H' w' with⟨stop,qn⟩ | ⟨go,step⟩
  ·refine thn (T.done (X.comp (own++fr) scope C s H fp) rfl rfl rfl hc i _ s' _ H' _ I1 (fpO _ H' hpl fr') st' stop) λ r s1 ⟨hr,I2⟩=>?_
   subst hr;have hD1:=(I2.pin (D,_) (ao _ (aN.mpr rfl))).1;obtain⟨m1,hm1,_⟩:=I2.loc;have J1:Inv X pins σ H' s1:=I.Ny I2.os I2.base I2.hok I2.bare λ b hb=>⟨(hf b hb).2.2.2.1,(hf b hb).2.1,(hf b hb).2.2.2.2.1,(hf b hb).2.2.2.2.2⟩;have hXD:X.s₀.heap.objs.size<=D:=by rw[<-hDD];exact I.sz
   have J2:Inv X pins σ (upd H' D (.lst ys)) s1:=J1.zd hD' hXD (bR (by rw[<-hDD];exact I.lt)) (λ x c e z=>by
     obtain⟨v,q⟩:=I.cell x c e;exact absurd q.lt (by rw[z,hDD];exact aX _)) (λ p hp z=>by
     have:=aw (I.pin p hp).1;rw[z,hDD]at this;exact aX _ this) ⟨hz,its.toList,na,rv,by simpa using hD1⟩
   exact fin D C s1 _ J2 (qn D hD') hCle (by rw[iI (aY hDC)];exact I2.free) ⟨m1,hm1⟩
  ·refine thn (T.item (X.comp (own++fr) scope C s H fp) rfl rfl rfl hc i _ s' _ H' _ I1 (fpO _ H' hpl fr') st' go) λ r s1 ⟨u,hr,h1⟩=>?_
   subst hr;refine thn h1 λ _ s2 ⟨x,H2',I2,r2,y2,st2,fr2⟩=>?_;have I2':=I2.pinned (fpO _ H2' hpl fr2) (T.obj _ _ st2);refine thn (hg C _ s2 _ H2' x u _ I2' r2 (hgo _ _ _ _ (step x H2' y2))) λ _ s3 ⟨σ3,H3,I3,own3,len3,q3⟩=>?_;refine thn (ht C _ s3 σ3 H3 _ I3 q3) λ ok s4 ⟨H4,I4,q4⟩=>?_;have weak:∀ {pl H5 s5},Inv (X.comp (own++fr) scope C s H fp) pl σ3 H5 s5->Inv (X.comp (own++fr) scope C s H fp) pl (jo own ix σ) H5 s5:=λ I5=>I5.weak len3.symm λ j v e=>by
    by_cases hj:own.length<=j
    ·rw[own3 j (bg hn1 hj)];exact e
    ·exfalso
     unfold jo at e;rw[br (by simp;lia),aD]at e;cases q:own[j]? with
     | none=>rw[q]at e;cases e
     | some a=>rw[q]at e;cases e
   have again:∀ {H5:Hp} {s5:hE} {ys':List V} {its':Array g_} {n':Nat},Inv (X.comp (own++fr) scope C s H fp) ([(D,({cls:=.type "list",data:=.seq its na}:Obj))]++lN fp s2.heap) σ3 H5 s5->W (i+1) n' ys' H5->Vals ys' its'.toList->ys'.length<=sizeLine ->
     ∀ h',(∀ b o,b≠D->s5.heap.get? b=kb o->h'.get? b=kb o)->h'.PlainList D its'->∃ i ys its H',Inv (X.comp (own++fr) scope C s H fp) [] (jo own ix σ) H' {s5 with heap:=h'}/\h'.PlainList D its/\Vals ys its.toList/\H' D=My/\tn i h'/\(∀ b∈fp,H' b=My)/\ys.length<=sizeLine/\W i n' ys H':=by
    intro H5 s5 ys' its' n' I5 w5 rv5 hz5 h' k5 a5;have hD5:H5 D=My:=(I5.pin (D,_) (ao _ (aM _ (aN.mpr rfl)))).2.1;have I6:Inv (X.comp (own++fr) scope C s H fp) [] (jo own ix σ) H5 s5:=(weak I5).mj λ p hp=>absurd hp (by simp);refine⟨i+1,ys',its',H5,I6.turned (t':=s5.toks) k5 hD5 hDC (.inr hDs) ncell (λ p hp=>absurd hp (by simp[Cx.comp])),a5,rv5,hD5,T.keep _ _ _ st2 λ b hb o e=>k5 b o (λ z=>nfp (z▸hb)) (I5.pin (b,o) (ao _ (ao _ (jV hb e)))).1,λ b hb=>?_,hz5,w5⟩;obtain⟨o,e,d⟩:=T.obj _ _ st2 b hb;exact(I5.pin (b,o) (ao _ (ao _ (jV hb e)))).2.1
   have pinD:∀ {H5:Hp} {s5:hE},Inv (X.comp (own++fr) scope C s H fp) ([(D,({cls:=.type "list",data:=.seq its na}:Obj))]++lN fp s2.heap) σ3 H5 s5->s5.heap.PlainList D its:=λ I5 =>⟨na,(I5.pin (D,_) (ao _ (aM _ (aN.mpr rfl)))).1⟩
   cases ok with
   | false =>rw[ag ax]at q4;rw[ag ax];obtain⟨m',hm',w4⟩:=q4;exact⟨m',hm',again I4 w4 rv hz s4.heap (λ _ _ _ e=>e) (pinD I4)⟩
   | true =>
    rw[ae rfl]at q4;rw[ae rfl];refine thn (hi2 C _ s4 σ3 H4 _ I4 q4) λ v s5 h5=>thn h5 λ itv s6 h6=>?_;obtain⟨it2,fp2,tn2,J2,H6,e6,I6,T2,st6,f6,V',⟨m2,w6⟩,turn2⟩:=h6;subst e6;have hD6:=(I6.pin (D,_) (ao _ (aM _ (aN.mpr rfl)))).2.1;have I7:Inv (X.comp (own++fr) scope C s H fp) (lN fp s2.heap) σ3 H6 s6:=I6.mj λ p hp=>I6.pin p (ao _ (ao _ hp));have none3:∀ j,n1<=j->j<own.length->σ3[j]?=kb My:=λ j h1 h2=>by rw[own3 j h1];unfold jo;rw[br (by simpa using h2),aD];simp[h2]
    have pinsD:∀ p∈(X.comp (own++fr) scope C s H fp).pn++lN fp s2.heap,p.1≠D:=λ p hp z=>by
     have hp:p∈lN fp s2.heap:=by simpa [Cx.comp] using hp
     exact nfp (z▸(yM hp).1)
    refine JX (X:=X.comp (own++fr) scope C s H fp) I7 hc rfl T2 st6 (λ b hb=>?_) (pinD I6) rv hD6 ⟨hDC,nfs,.inr hDs,ncell,pinsD⟩ (λ z=>?_) hz (hg2 C) (hgk2 σ3 none3) (ht2 C) (he C) w6 turn2 ?_
    ·obtain⟨q1,q2,q3,q4,q5,q6⟩:=f6 b hb;exact⟨q1,q2,q3,q4,q5,λ p hp=>q6 p ((bh.mp hp).elim (λ z=>aM _ z) λ z=>ao _ (ao _ z))⟩
    ·exact(f6 D z).2.2.2.2.2 (D,_) (ao _ (aM _ (aN.mpr rfl))) rfl
    ·rintro ys8 its8 H8 s8 I8 a8 rv8 hz8 hD8 ⟨m',hm',w8⟩;refine⟨rfl,m',hm',i+1,ys8,its8,H8,(weak I8).mj (λ p hp=>absurd hp (by simp)),a8,rv8,hD8,T.keep _ _ _ st2 λ b hb o e=>(I8.pin (b,o) (ao _ (jV hb e))).1,λ b hb=>?_,hz8,w8⟩;obtain⟨o,e,d⟩:=T.obj _ _ st2 b hb;exact(I8.pin (b,o) (ao _ (jV hb e))).2.1
 exact codeAny_compStart_list (loop _ rfl) (T.self _ 0 _ _ _ st0 (loop _ rfl))
theorem Qt {i:Nat}{x:Str}{px spos:Pos}(hN:X.N.Nodup)(hi':X.N[i]?=kb x)(hx:Loc X.env.scope x)(hc:X.calm=V0)(S:kq X scope own fr ix){wi:TI}(hi:PI X tg iter wi)(hg:∀ C s H fp,PG (X.comp (own++fr) scope C s H fp) tg g){n1:Nat}(hn1:n1<=own.length)(hgo:yt n1 g)(hi2:∀ C s H fp,PI (X.comp (own++fr) scope C s H fp) tg2 iter2 wi2)(hg2:∀ C s H fp,PG (X.comp (own++fr) scope C s H fp) tg2 g2)(hgk2:∀ σ2:St,(∀ j,n1<=j->j<own.length->σ2[j]?=kb My)->Co g2 σ2)(ht2:∀ C s H fp,PF (X.comp (own++fr) scope C s H fp) ifs2 tc2)
  (ht:∀ C s H fp,PF (X.comp (own++fr) scope C s H fp) ifs tc) (he:∀ C s H fp,PE (X.comp (own++fr) scope C s H fp) elt te)
  (hsw:swapsWith (.ListComp elt [⟨tg,iter,ifs,0⟩,⟨tg2,iter2,ifs2,0⟩] scope pos) (kb (.Name x px)) spos.line X.env=pure V0:=by rfl) (hf:X.fn x=V0\/X.env.scope.names.lookup x=kb .local:=by trivial)
  (hs:∀ x,foldedSetIterable iter X.env x=pure x:=by intro _;rfl) (hs2:∀ C x,foldedSetIterable iter2 (compEnvC scope (qU scope X.env) C X.env) x=pure x:=by intro _ _;rfl) :
  PS X (.Assign [.Name x px] (.ListComp elt [⟨tg,iter,ifs,0⟩,⟨tg2,iter2,ifs2,0⟩] scope pos) spos) (λ D σ H=>Sr own ix wi g tc wi2 g2 tc2 te σ H λ v H'=>D.nx (σ.set i (kb v)) H'):=by
 intro pins s σ H D I h;rw[exec_Assign_Name_used _ _ _ _ hsw];refine aa (cU (aa ?_));show wpAny _ X.A (do let _<-comprehension (.ListComp elt [⟨tg,iter,ifs,0⟩,⟨tg2,iter2,ifs2,0⟩] scope pos) scope X.env _ (newList []) V1 (eval iter X.env) (kb (assign (.Name x px) X.env))) _ _ s;refine aa (cv (eT (use:=kb (assign (.Name x px) X.env)) (Q:=λ _ s'=>SP X pins D .next s') rfl hs (rA (S.cells I.ok)) S.kind S.loc
  (thn (hi pins s σ H _ I h) λ v s1 h1=>thn h1 λ itv s2 h2=>?_)) (λ _ s' hq=>ah (ah hq)) λ _ _ e=>e)
 obtain⟨it,fp,tn,J,H2,e,I2,T,st2,f2,W,⟨m0,w0⟩,turn⟩:=h2;subst e;refine G1 (Qe:=λ v H'=>D.nx (σ.set i (kb v)) H') (RR:=λ acc C=>compPost (model X.prog X.w) X.A X.xe (kb (assign (.Name x px) X.env)) (λ _ s'=>SP X pins D .next s') acc C) I2 hc S T st2 f2 (λ C=>hg C _ _ _) hn1 hgo (λ C=>ht C _ _ _) (λ C=>hi2 C _ _ _) hs2 (λ C=>hg2 C _ _ _) hgk2 (λ C=>ht2 C _ _ _) (λ C=>he C _ _ _) w0 turn ?_;rintro Dd C s' H' J1 q hC hn ⟨m,hm⟩;show wpAny _ X.A (assign (.Name x px) X.env (.ref Dd)) _ _ _;refine gf (tS (v:=.ref Dd) J1 hN hi' hx rfl (λ s'' J2 ⟨a,hsb,ha⟩=>?_) hf);have neC:a≠C:=by
  rcases ha with ha | ha
  ·rw[ha];exact aU (aB I2.lt hC)
  ·obtain⟨v,q⟩:=I2.cell x a ha;exact aU (aB q.lt hC)
 refine⟨m,hm.sameBut hsb neC.symm,λ h'' hs''=>⟨_,H',?_,q⟩⟩;exact J2.turned (t':=s''.toks) (λ b o hb e=>hs''.extBut b o hb e) hn (bR (aB I2.lt hC)) (.inr (bg I2.sz hC)) (λ x c e z=>by
  obtain⟨v,q⟩:=I2.cell x c e;exact absurd q.lt (by rw[z];exact ed.mpr hC)) (λ p hp z=>by
  have:=aw (I2.pin p hp).1;rw[z]at this;exact absurd this (ed.mpr hC))
end
open Zp
theorem D5 {n1 n i:Nat}(h1:n1<=i)(h2:i<n)(σ2:St)(h:∀ j,n1<=j->j<n->σ2[j]?=kb My):Co (je i) σ2:=λ x H Q q=>⟨λ j v e=>by
 have:i≠j:=λ z=>by subst z;rw[h i h1 h2]at e;cases e
 rw[bK this];exact e,by simp,q⟩
def tF (gg:Dt->DE->g6 DE)(gt:DE->g6 Bool)(gi2:DE->g6 (List Dt))(gg2:Dt->DE->g6 DE)(gt2:DE->g6 Bool)(ge:DE->g6 Dt)(δc:DE):List Dt->g6 (List Dt)
 | []=>kb []
 | d::r=>(gg d δc).bind λ δ'=>(gt δ').bind λ b=>if b=V0 then (gi2 δ').bind λ es=>(sG gg2 gt2 ge δ' es).bind λ zs=>(tF gg gt gi2 gg2 gt2 ge δc r).map (zs++·) else tF gg gt gi2 gg2 gt2 ge δc r
def JY (own:List Str)(ix:List Nat)(gi:DE->g6 (List Dt))(gg:Dt->DE->g6 DE)(gt:DE->g6 Bool)(gi2:DE->g6 (List Dt))(gg2:Dt->DE->g6 DE)(gt2:DE->g6 Bool)(ge:DE->g6 Dt):DE->g6 Dt :=
 λ δ=>(gi δ).bind λ ds=>(tF gg gt gi2 gg2 gt2 ge (pD own ix δ) ds).bind λ l=>if l.length<=1000 then kb (.lst l) else My
section
variable {X:Cx}{pos:Pos}{tg iter elt tg2 iter2:Expr}{ifs ifs2:List Expr}{own fr:List Str}{ix:List Nat}{scope:Scope}{g g2:TG}{gg gg2:Dt->DE->g6 DE}{gi gi2:DE->g6 (List Dt)}{gt gt2:DE->g6 Bool}{ge:DE->g6 Dt}
theorem Qu {K:g9}(hgd2:GD K g2 gg2){σ2:St}{δ':DE}{H H3:Hp}{ys:List V}{us:List Dt}{es zs0:List Dt}{Ko:List V->Hp->Prop}(S:Sat K H3 σ2 δ')(e1:gi2 δ'=kb es)(e2:sG gg2 gt2 ge δ' es=kb zs0)(is:Iss K H3 ys us)(hl:us.length+zs0.length<=1000)
  (k:∀ zs H',iA H3 H'->Iss K H' zs (us++zs0)->Ko zs H'):tIn (iD K gi2) g2 (tDT K gt2) (tD K ge) σ2 ys Ko H3:=by
 refine⟨δ',es,S,e1,λ J H1 s1 ok=>?_⟩;refine⟨λ i m ys H'=>m=es.length-i/\i<=es.length/\iA H1 H'/\∃ us' vs,Iss K H' ys us'/\sG gg2 gt2 ge δ' (es.drop i)=kb vs/\us'++vs=us++zs0,⟨_,rfl,aZ _,iA.refl _,us,zs0,is.ext s1,by simpa using e2,rfl⟩,?_⟩;rintro i m ys H' ⟨rfl,hi,s2,us',vs,is',e3,e4⟩;obtain⟨items,stop⟩:=ok H' s2;have hy:ys.length<=1000:=by have h1:=is'.length;have h2:=cG List.length e4;simp only[aQ]at h2;lia
 by_cases hlt:i<es.length
 ·right
  have hdi:es[i]?=kb es[i]:=by simp[hlt]
  obtain⟨go,yld⟩:=items i _ hdi;refine⟨go,by have:=rz;rw[sizeLine_eq];lia,λ x H'' hyl=>?_⟩;obtain⟨s3,ix3⟩:=yld x H'' hyl;rw[cR hlt]at e3;obtain⟨δ2,f1,e3⟩:=hZ (show(gg2 es[i] δ').bind _=_ from e3);obtain⟨b,f2,e3⟩:=hZ e3;have S':Sat K H'' σ2 δ':=S.ext ((s1.trans s2).trans s3);refine hgd2 H'' x es[i] _ _ δ2 _ ix3 S' f1 λ σ' Sσ=>⟨δ2,b,Sσ,f2,λ H3 s4=>?_⟩;cases b with
  | true =>rw[ae rfl]at e3 ⊢;obtain⟨y,f3,e3⟩:=hZ e3;obtain⟨r,f4,e3⟩:=iP e3;subst e3;refine⟨δ2,y,Sσ.ext s4,f3,λ v H4 s5 iv=>⟨es.length-(i+1),by lia,rfl,hlt,((s2.trans s3).trans s4).trans s5,us'++[y],r,(is'.ext ((s3.trans s4).trans s5)).snoc iv,f4,by rw[<-e4];simp⟩⟩
  | false =>rw[ag ax]at e3 ⊢;exact⟨es.length-(i+1),by lia,rfl,hlt,(s2.trans s3).trans s4,us',vs,is'.ext (s3.trans s4),e3,e4⟩
 ·left
  have hi:i=es.length:=by lia
  subst hi;rw[fA]at e3;cases e3;rw[bH]at e4;subst e4;exact⟨stop,k _ _ (s1.trans s2) is'⟩
set_option tactic.hygienic true in
theorem MF {K:g9}(hgd:GD K g gg)(hgd2:GD K g2 gg2)(σ:St)(H:Hp)(Q:VK)(h:tD K (JY own ix gi gg gt gi2 gg2 gt2 ge) σ H Q):Sr own ix (iD K gi) g (tDT K gt) (iD K gi2) g2 (tDT K gt2) (tD K ge) σ H Q:=by
 obtain⟨δ,d,S,e,q⟩:=h;obtain⟨ds,e1,e⟩:=hZ e;obtain⟨rs,e2,e⟩:=hZ e;split at e
 ·rename_i hlen
  cases e;refine⟨δ,ds,S,e1,λ J H1 s1 ok=>?_⟩;refine⟨λ i m ys H'=>m=ds.length-i/\i<=ds.length/\iA H1 H'/\∃ us vs,Iss K H' ys us/\tF gg gt gi2 gg2 gt2 ge (pD own ix δ) (ds.drop i)=kb vs/\us++vs=rs,⟨_,rfl,aZ _,iA.refl _,[],rs,.nil,by simpa using e2,rfl⟩,?_⟩;rintro i m ys H' ⟨rfl,hi,s2,us,vs,is,e3,e4⟩;obtain⟨items,stop⟩:=ok H' s2;by_cases hlt:i<ds.length
  ·right
   have hdi:ds[i]?=kb ds[i]:=by simp[hlt]
   obtain⟨go,yld⟩:=items i _ hdi;refine⟨go,λ x H'' hyl=>?_⟩;obtain⟨s3,ix3⟩:=yld x H'' hyl;rw[cR hlt]at e3;obtain⟨δ',f1,e3⟩:=hZ (show(gg ds[i] (pD own ix δ)).bind _=_ from e3);obtain⟨b,f2,e3⟩:=hZ e3;have S':Sat K H'' (jo own ix σ) (pD own ix δ):=(S.ext ((s1.trans s2).trans s3)).comp;refine hgd H'' x ds[i] _ _ δ' _ ix3 S' f1 λ σ' Sσ=>⟨δ',b,Sσ,f2,λ H3 s4=>?_⟩;cases b with
   | true =>rw[ae rfl]at e3 ⊢;obtain⟨es,f3,e3⟩:=hZ e3;obtain⟨zs0,f4,e3⟩:=hZ e3;obtain⟨r,f5,e3⟩:=iP e3;subst e3;refine Qu (H:=H) hgd2 (Sσ.ext s4) f3 f4 (is.ext (s3.trans s4)) ?_ λ zs H5 s5 iz=>⟨ds.length-(i+1),by lia,rfl,hlt,((s2.trans s3).trans s4).trans s5,us++zs0,r,iz,f5,by rw[<-e4];simp⟩;have h2:=cG List.length e4;simp only[aQ]at h2;lia
   | false =>rw[ag ax]at e3 ⊢;exact⟨ds.length-(i+1),by lia,rfl,hlt,(s2.trans s3).trans s4,us,vs,is.ext (s3.trans s4),e3,e4⟩
  ·left
   have hi:i=ds.length:=by lia
   subst hi;rw[fA]at e3;cases e3;rw[bH]at e4;subst e4;exact⟨stop,λ p hp=>q _ _ ((s1.trans s2).trans (iA.upd hp)) (.lst ir (is.ext (iA.upd hp)))⟩
 ·cases e
theorem Qv {i n1:Nat}{x:Str}{px spos:Pos}(hN:X.N.Nodup)(hc:X.calm=V0)(S:kq X scope own fr ix)(hi:PI X tg iter (iD X.K gi))(hg:∀ C s H fp,PG (X.comp (own++fr) scope C s H fp) tg g)(hn1:n1<=own.length)(hgo:yt n1 g)(hgd:GD X.K g gg)
  (ht:∀ C s H fp,PF (X.comp (own++fr) scope C s H fp) ifs (tDT X.K gt)) (hi2:∀ C s H fp,PI (X.comp (own++fr) scope C s H fp) tg2 iter2 (iD X.K gi2)) (hg2:∀ C s H fp,PG (X.comp (own++fr) scope C s H fp) tg2 g2) (hgk2:∀ σ2:St,(∀ j,n1<=j->j<own.length->σ2[j]?=kb My)->Co g2 σ2) (hgd2:GD X.K g2 gg2)
  (ht2:∀ C s H fp,PF (X.comp (own++fr) scope C s H fp) ifs2 (tDT X.K gt2)) (he:∀ C s H fp,PE (X.comp (own++fr) scope C s H fp) elt (tD X.K ge)) (hi':X.N[i]?=kb x:=by rfl) (hx:Loc X.env.scope x:=by trivial)
  (hsw:swapsWith (.ListComp elt [⟨tg,iter,ifs,0⟩,⟨tg2,iter2,ifs2,0⟩] scope pos) (kb (.Name x px)) spos.line X.env=pure V0:=by rfl) (hf:X.fn x=V0\/X.env.scope.names.lookup x=kb .local:=by trivial) (hs:∀ x,foldedSetIterable iter X.env x=pure x:=by intro _;rfl)
  (hs2:∀ C x,foldedSetIterable iter2 (compEnvC scope (qU scope X.env) C X.env) x=pure x:=by intro _ _;rfl) :
  PDS X (.Assign [.Name x px] (.ListComp elt [⟨tg,iter,ifs,0⟩,⟨tg2,iter2,ifs2,0⟩] scope pos) spos) (jW i (JY own ix gi gg gt gi2 gg2 gt2 ge)) :=
 (Qt (te:=tD X.K ge) hN hi' hx hc S hi hg hn1 hgo hi2 hg2 hgk2 ht2 ht he hsw hf hs hs2).of λ D σ H hz3=>by obtain⟨δ,r,S,e,q⟩:=hz3;obtain⟨d,e1,e⟩:=iP e;subst e;exact MF hgd hgd2 σ H _ ⟨δ,d,S,e1,λ v H1 s1 i1=>q H1 s1 _ ((S.ext s1).set i1)⟩
end
open PySem.W PySem.SeqAt
def Ss (i j k:Nat):Dt->DE->g6 DE:=λ d δ=>match d with
 | .tup [x,y,z]=>kb (((δ.set i (kb x)).set j (kb y)).set k (kb z))
 | _=>My
section
variable {X:Cx}{pins:hJ}{σ:St}{H:Hp}{s:hE}
def lsT (b:List Int):List (List Int)->List Int
 | []=>b
 | x::r=>lsT (if HT.lexLt x b=V0 then x else b) r
section
variable {prog:Program}{w:World}{A:Around}{R:Result->hE->Prop}
end
end
section
variable {prog:Program}{w:World}{A:Around}{E:g0}{s:hE}
end
def xD:List Dt->g6 (List (List Int))
 | []=>kb []
 | d::r=>((w9 d).bind kn).bind λ x=>(xD r).map (x::·)
theorem D6 (l:List (List Int)):xD (l.map λ x=>.tup (x.map .int))=kb l:=by
 induction l with
 | nil=>rfl
 | cons x r ih =>
  show((w9 (.tup (x.map .int))).bind kn).bind (λ y=>(xD (r.map λ x=>.tup (x.map .int))).map (y::·))=_;rw[ih];have:kn (x.map .int)=kb x:=by
   induction x with
   | nil=>rfl
   | cons y t it =>show(kn (t.map .int)).map (y::·)=_;rw[it];rfl
  show((kn (x.map .int)).bind λ y=>_)=_;rw[this];rfl
def Su:List (List Int)->g6 (List Int)
 | []=>My
 | x::r=>kb (lsT x r)
def JZ:List Dt->g6 Dt:=sJ λ x=>(BN x).bind λ ds=>(xD ds).bind λ l=>(Su l).map λ x=>.tup (x.map .int)
section
variable {X:Cx}{pins:hJ}{σ:St}{H:Hp}{s:hE}
end
end L2
namespace L2
open PySem PySem.Spec PyProof.Rows Zp
section
variable {X:Cx}{pos:Pos}
def Qw (i j k:Nat)(g:DE->g6 (List Dt)):DE->g6 RD:=λ δ=>(g δ).bind λ ds=>match ds with
 | [x,y,z]=>kb (.nx (((δ.set i (kb x)).set j (kb y)).set k (kb z)))
 | _=>My
end
@[simp] theorem T6 (i j k:Nat) (gs:DE->g6 (List Dt)) (δ:DE):Qw i j k gs δ=(gs δ).bind λ ds=>match ds with | [x,y,z]=>kb (.nx (((δ.set i (kb x)).set j (kb y)).set k (kb z))) | _=>My:=rfl
open Qs
section
variable {K:g9}{w:Web}(g:Good w)
include g
end
section
variable {K:g9}{w:Web}(g:Good w)
include g
end
def kS:List Dt->g6 Dt:=yz λ x y=>(dT x).bind λ w=>(ja y).bind λ b=>if b<w.1 then kb (.tup (((V2 w.1).map λ a=>mn w.2 b a).map .int)) else My
theorem Sv {w:Web}(hg:Good w)(tr:w.2.length+1=w.1){b:Nat}(hb:b<w.1):kS [ip w,h_ b]=kb (.tup (((V2 w.1).map λ a=>mn w.2 b a).map .int)):=by show(dT (ip w)).bind (λ w=>(ja (h_ b)).bind λ b=>if b<w.1 then kb (Dt.tup (((V2 w.1).map λ a=>mn w.2 b a).map .int)) else My)=_;rw[Qr hg tr,iY,af,af,ae hb]
theorem xE {α:Type}{enc:α->Dt}{gg gg2:Dt->DE->g6 DE}{gi2:DE->g6 (List Dt)}{gt2:DE->g6 Bool}{ge:DE->g6 Dt}{δc:DE}{δa:α->DE}{es zs:α->List Dt}:∀ (l:List α),(∀ a∈l,gg (enc a) δc=kb (δa a)/\gi2 (δa a)=kb (es a)/\sG gg2 gt2 ge (δa a) (es a)=kb (zs a)) ->
  tF gg jL gi2 gg2 gt2 ge δc (l.map enc)=kb (l.flatMap zs)
 | [],_=>rfl
 | a::r,h=>by obtain⟨h1,h2,h3⟩:=h a av;have ih:=xE r λ b hb=>h b (ar _ hb);rw[au,tF,h1,af,P8,af,ae rfl,h2,af,h3,af,ih];rfl
theorem AD {α:Type}(F:Nat->α)(n:Nat):((V2 n).map F).zipIdx=(V2 n).map λ a=>(F a,a):=by
 apply gy;intro i;rw[List.getElem?_zipIdx,aD,aD];by_cases h:i<n
 ·rw[bx h];simp
 ·rw[bu (by simpa using h)];rfl
theorem xF (t:Bool){x:Dt}(F:Nat->Dt)(n:Nat)(h:itB t x=kb ((V2 n).map F)):JW t [x]=kb ((V2 n).map λ a=>.tup [h_ a,F a]):=by show(itB t x).map _=_;rw[h,cq,AD,aR];rfl
def grL (w:Web):List (List Int):=(V2 w.1).flatMap λ b=>(V2 w.1).map λ a=>[-(mn w.2 b a),(a:Int),(b:Int)]
def yF (x:List Int):Dt:=.tup (x.map .int)
def U5:List Int->g6 Dt
 | [n,a,b]=>kb (.tup [.int (-n),.int a,.int b])
 | _=>My
def D7:List Dt->g6 Dt:=sJ λ x=>(dT x).bind λ w=>(Su (grL w)).bind U5
def xG:DE->g6 RD:=(i_ (lL (ib 1 tE (hU (hW 0) hX))) (i_ (jW 1 (JY ["b","a","number"] [0] (nA (hU (iG dIx (hW 0) (gC (.int 0))) hX)) (ggN 0) jL (xC V0 (hU (ib 2 kS (hU (hW 3) (hU (hW 0) hX))) hX)) (kW 1 2) jL (jE (hU (gUn uk (hW 2)) (hU (hW 1) (hU (hW 0) hX)))))) (i_ (sH (Ss 2 3 4) (ju JZ (hU (hW 1) hX))) (jk (jE (hU (gUn uk (hW 2)) (hU (hW 3) (hU (hW 4) hX))))))))
abbrev D8:List Str:=["tree","found","number","a","b"]
theorem MG (w:Web)(h:w.1<=8):(grL w).length<=1000:=by
 have:(grL w).length=w.1*w.1:=by
  unfold grL;rw[List.length_flatMap];have:∀ l:List Nat,(l.map λ b=>((V2 w.1).map λ a=>[-(mn w.2 b a),(a:Int),(b:Int)]).length).sum=l.length*w.1:=λ l=>by
   induction l with
   | nil=>simp
   | cons x r ih=>rw[au,aI,ih,ak,bA,aW,Nat.succ_mul];lia
  rw[this,bA]
 rw[this];exact bg (f9 h h) (by decide)
theorem J0 {α β γ:Type}(f:α->List β)(g:β->γ)(l:List α):l.flatMap (λ a=>(f a).map g)=(l.flatMap f).map g:=by rw[List.map_flatMap]
@[simp] theorem VM {δ:DE} (own:List PySem.Str) (ix:List Nat) (gi gi2:DE->g6 (List Dt)) (gg gg2:Dt->DE->g6 DE) (t t2:DE->g6 Bool) (g:DE->g6 Dt):JY own ix gi gg t gi2 gg2 t2 g δ=(gi δ).bind λ ds=>(tF gg t gi2 gg2 t2 g (pD own ix δ) ds).bind λ l=>if l.length<=1000 then kb (.lst l) else My:=rfl
@[simp] theorem U6 {δ:DE} (t:Bool) (gs:DE->g6 (List Dt)):xC t gs δ=(gs δ).bind (JW t):=rfl
@[simp] theorem U7 {δ:DE} (i j k:Nat) (x y z:Dt):Ss i j k (.tup [x,y,z]) δ=kb (((δ.set i (kb x)).set j (kb y)).set k (kb z)):=rfl
theorem Ol:Hg 1 D8 D7 xG:=by
 intro ds d hl h;obtain⟨x,rfl,h⟩:=kP h;obtain⟨w,e1,h⟩:=hZ h;obtain⟨t,e2,h3⟩:=hZ h;obtain⟨e4,ht⟩:=Qq e1;obtain⟨rfl,hg⟩:=kf e4;have c1:=JV e1;have h8:=hg.kg;have hr:=ow (n:=w.1) (by lia);have hr:yu [h_ w.1]=kb ((V2 w.1).map h_):=hr;have ix:dIx (ip w) (.int 0)=kb (h_ w.1):=rfl;have lc:=xE (enc:=h_) (gg:=ggN 0) (gi2:=xC V0 (hU (ib 2 kS (hU (hW 3) (hU (hW 0) hX))) hX)) (gg2:=kW 1 2) (gt2:=jL) (ge:=jE (hU (gUn uk (hW 2)) (hU (hW 1) (hU (hW 0) hX)))) (δc:=[My,My,My,kb (ip w)])
  (δa:=λ b=>[kb (h_ b),My,My,kb (ip w)]) (es:=λ b=>(V2 w.1).map λ a=>Dt.tup [h_ a,.int (mn w.2 b a)]) (zs:=λ b=>((V2 w.1).map λ a=>[-(mn w.2 b a),(a:Int),(b:Int)]).map yF) (V2 w.1) λ b hb=>⟨rfl,by
   have hb:b<w.1:=ay.mp hb;have cm:=Sv hg ht hb;have en:=xF V0 (x:=.tup (((V2 w.1).map λ a=>mn w.2 b a).map .int)) (λ a=>.int (mn w.2 b a)) w.1 (by show kb _=kb _;rw[aR];rfl);generalize ((V2 w.1).map λ a=>mn w.2 b a).map Dt.int=ps at cm en;generalize h_ b=nb,ip w=ww at *;simp[cm,en],by
   have lm:=kz (enc:=λ a=>Dt.tup [h_ a,.int (mn w.2 b a)]) (gg:=kW 1 2) (ge:=jE (hU (gUn uk (hW 2)) (hU (hW 1) (hU (hW 0) hX)))) (δc:=[kb (h_ b),My,My,kb (ip w)]) (δa:=λ a=>[kb (h_ b),kb (h_ a),kb (.int (mn w.2 b a)),kb (ip w)]) (enc':=λ a=>yF [-(mn w.2 b a),(a:Int),(b:Int)]) (V2 w.1) λ a _=>⟨rfl,by simp[gUn,uk,yF,h_]⟩;rw[lm,aR];rfl⟩
 rw[J0]at lc;have lc:tF (ggN 0) jL (xC V0 (hU (ib 2 kS (hU (hW 3) (hU (hW 0) hX))) hX)) (kW 1 2) jL (jE (hU (gUn uk (hW 2)) (hU (hW 1) (hU (hW 0) hX)))) [My,My,My,kb (ip w)] ((V2 w.1).map h_)=kb ((grL w).map yF):=lc;have hn:((grL w).map yF).length<=1000:=by rw[ak];exact MG w h8
 have mt:JZ [.lst ((grL w).map yF)]=kb (.tup (t.map .int)):=by show(xD ((grL w).map yF)).bind _=_;rw[show(grL w).map yF=(grL w).map λ x=>.tup (x.map .int) from rfl,D6,af,e2];rfl
 match t,h3 with
 | [n,a,b],h3 =>cases h3;refine⟨.rt (.tup [.int (-n),.int a,.int b]),?_,rfl⟩;have mt:JZ [.lst ((grL w).map yF)]=kb (.tup [.int n,.int a,.int b]):=mt;generalize (grL w).map yF=gl at lc hn mt;generalize (V2 w.1).map h_=rs at lc hr;generalize ip w=ww at *;simp only[h_]at ix hr;simp[xG,c1,ix,h_,hr,lc,hn,mt,gUn,uk]
theorem J6 (t:Nat×Nat)(l:hG):qW (iq t) (l.map iq)=decide (t∈l):=by unfold qW;rw[bj,List.any_map];simp only[dU,xB,fB,beq_iff_eq,decide_eq_true_eq];exact⟨λ⟨x,hx,e⟩=>by rw[<-e];exact hx,λ h=>⟨t,h,rfl⟩⟩
theorem J9 (neg:Bool)(t:Nat×Nat)(l:hG):dIn neg (iq t) (jq l)=kb (.bl (if neg then !decide (t∈l) else decide (t∈l))):=by show(if ((l.map iq).all λ e=>sh2 e (iq t))=V0 then kb (Dt.bl (if neg then !qW (iq t) (l.map iq) else qW (iq t) (l.map iq))) else My)=_;rw[ae (by rw[gK,dk];intro x _;rfl),J6]
end L2
namespace L2
open PySem PySem.W PySem.Spec PyProof.Rows Zp PySem.SeqAt Tb
section
variable {X:Cx}{pins:hJ}{σ:St}{H:Hp}{s:hE}{tg e:Expr}
end
end L2
namespace L2
open PySem PySem.Spec PyProof.Rows Zp Qs
def mpD (F:Nat->Int)(ks:List Nat):List (Int×Int):=ks.map λ(j:Nat)=>((j:Int),F j)
def ksI (l:hG)(b i:Nat):List Nat:=b::((keys (bfs l b)).take i).filter λ k=>decide (k≠b)
section
variable {w:Web}(g:Good w)
include g
end
abbrev cV (k:Nat):V:=.int k
theorem stE {K:g9}{H:Hp}:Sat K H [] []:=⟨rfl,λ _ _ h=>by cases h⟩
theorem stN {K:g9}{H:Hp}{x:g6 V}{σ:L2.St}{δ:DE}(h:Sat K H σ δ):Sat K H (x::σ) (My::δ):=⟨cG (·+1) h.len,λ j d hj=>by
 cases j with
 | zero=>cases hj
 | succ j=>exact h.at_ j d hj⟩
theorem stS {K:g9}{H:Hp}{v:V}{d:Dt}{σ:L2.St}{δ:DE}(i:Is K H v d)(h:Sat K H σ δ):Sat K H (kb v::σ) (kb d::δ):=⟨cG (·+1) h.len,λ j d hj=>by
 cases j with
 | zero=>cases hj;exact⟨_,rfl,i⟩
 | succ j=>exact h.at_ j d hj⟩
section
variable {K:g9}{w:Web}(g:Good w)
include g
structure KI (K:g9)(w:Web)(vt v3:V)(b:Nat)(f p:Addr)(o:Obj)(Hg H:Hp)(i:Nat):Prop where
 but:∀ c u,Hg c=kb u->c≠p->H c=kb u
 hf:H f=kb (.frz o (.dK (kvD (kd (bfs w.2 b)))))
 hp:H p=kb (.dK (kvD (mpD (mn w.2 b) (ksI w.2 b i))))
 i0:Is K H vt (ip w)
 i3:Is K H v3 (jq w.2)
end
def gvD (kvs:List (Int×Int))(i:Nat):g6 Int:=ou kvs (i:Int)
def adD (as:List Int)(i:Nat):Int:=as.getD i 0
def jm (a:Nat->Nat->Int)(n i:Nat):Dt:=.lst ((V2 (n+1)).map λ j=>.int (a i j))
def oW:List Dt->g6 Dt
 | [x,y,.dct kvs,.lst es]=>(dW x).bind λ w=>(ja y).bind λ p=>(kn es).bind λ as=>if p<w.1/\as.length=w.1 then kb (jm (eqA w (gvD kvs) (adD as)) w.1 p) else My
 | _=>My
def u1:DE->g6 RD:=sH (kW 4 5) (hW 0)
def uN:DE->g6 Dt:=ib 2 lg (hU (hW 5) (hU (hW 1) hX))
def uM:DE->g6 Dt:=gUn uk (gC (.int 1))
def uL:DE->g6 Dt:=ju qV (hU (hW 7) hX)
def uG:DE->g6 RD:=jk (iG yy (hW 6) (zh (hU (iG P9 (hW 2) (hW 1)) hX)))
def uA:DE->g6 RD:=jk (iG yy (hW 6) (zh (hU (iG dIx (hW 3) (hW 1)) hX)))
def eB (K:g9):TS:=md (tD K uM) (Lr (iX 6) (iX 8) E3)
def eF (K:g9):TS:=C_ (iDT K (gI sF (hW 7))) (je 8) (eB K)
def eI (K:g9):TS:=Lp (tB (RJ (iX 1) (iX 2))) (kL (md (tC (V.int 1)) (Lr (iX 6) (iX 1) E3)) (tDS K uG)) ES
def eR (K:g9):TS:=kL (md (tD K uN) (je 7)) (kL (eF K) (kL (md (tD K uL) (Lr (iX 6) (iX 1) E3)) (tDS K uA)))
def Sw (K:g9):TS:=kL (tDS K u1) (kL (md (tOp RG (we (iN (tC (V.int 0)) jI)) (iX 4)) (je 6)) (kL (eI K) (eR K)))
abbrev sgE (v0:V)(pl:Nat)(v2 v3:V)(n:Nat)(v5:V)(p:Addr)(nr ot:g6 V):L2.St:=[kb v0,kb (cV pl),kb v2,kb v3,kb (cV n),kb v5,kb (.ref p),nr,ot]
abbrev rwV (n:Nat)(f:Nat->Int):List V:=(V2 n).map λ j=>V.int (f j)
theorem MH (n:Nat)(f:Nat->Int)(j:Nat)(x:Int):(rwV n f).set j (V.int x)=rwV n (λ i=>if i=j then x else f i):=by
 apply gy;intro i;rw[List.getElem?_set];simp only[rwV,aD,ak,bA];by_cases c:j=i
 ·subst c
  by_cases l:j<n
  ·rw[ae rfl,ae l,bx l];simp
  ·rw[ae rfl,ag l,bu (by simp;lia)];rfl
 ·rw[ag c]
  by_cases l:i<n
  ·rw[bx l];simp[aY c]
  ·rw[bu (by simp;lia)];rfl
theorem AE {n j:Nat}(h:j<n):ixN n (j:Int)=kb j:=by unfold ixN;rw[ae (by lia),ae (by lia)];simp
structure EH (K:g9)(w:Web)(kvs:List (Int×Int))(as:List Int)(v0 v2 v3 v5:V)(H0:Hp)(p:Addr)(f:Nat->Int)(H:Hp):Prop where
 same:iA H0 H
 np:H0 p=My
 hp:H p=kb (.lst (rwV w.1 f))
 i0:Is K H0 v0 (ip w)
 i2:Is K H0 v2 (.dct kvs)
 i3:Is K H0 v3 (.lst (as.map .int))
 i5:Is K H0 v5 (jq w.2)
section
variable {K:g9}{w:Web}{kvs:List (Int×Int)}{as:List Int}{v0 v2 v3 v5:V}{H0 H:Hp}{p:Addr}{f:Nat->Int}{pl:Nat}{D:Ends}
theorem EH.ext {H':Hp}(x:EH K w kvs as v0 v2 v3 v5 H0 p f H)(s:iA H H'):EH K w kvs as v0 v2 v3 v5 H0 p f H':=⟨x.same.trans s,x.np,s _ _ x.hp,x.i0,x.i2,x.i3,x.i5⟩
theorem EH.put (x:EH K w kvs as v0 v2 v3 v5 H0 p f H)(j:Nat)(z:Int):EH K w kvs as v0 v2 v3 v5 H0 p (λ i=>if i=j then z else f i) (upd H p (.lst ((rwV w.1 f).set j (.int z)))) :=
 ⟨λ c u h=>by rw[iI (iU h x.np)];exact x.same c u h,x.np,by rw[ir,MH],x.i0,x.i2,x.i3,x.i5⟩
theorem EH.text (x:EH K w kvs as v0 v2 v3 v5 H0 p f H){u:HO}:jS H (upd H p u):=jS.upd (by rw[x.hp];trivial)
theorem EH.Om (x:EH K w kvs as v0 v2 v3 v5 H0 p f H):Is K H (.ref p) (.lst ((V2 w.1).map λ j=>.int (f j))):=by refine .lst x.hp ?_;have:=Iss.Fj (K:=K) (H:=H) ((V2 w.1).map f);rw[aR,aR]at this;exact this
theorem EH.sat (x:EH K w kvs as v0 v2 v3 v5 H0 p f H)(nr ot:g6 V):Sat K H (sgE v0 pl v2 v3 w.1 v5 p nr ot) [kb (ip w),kb (h_ pl),kb (.dct kvs),kb (.lst (as.map .int)),kb (h_ w.1),kb (jq w.2),kb (.lst ((V2 w.1).map λ j=>.int (f j))),My,My] :=
 stS (x.i0.ext x.same) (stS (.int _) (stS (x.i2.ext x.same) (stS (x.i3.ext x.same) (stS (.int _) (stS (x.i5.ext x.same) (stS x.Om (stN (stN stE))))))))
theorem EH.Sx {nr:V}{d7:Dt}(x:EH K w kvs as v0 v2 v3 v5 H0 p f H)(i7:Is K H nr d7)(ot:g6 V):Sat K H (sgE v0 pl v2 v3 w.1 v5 p (kb nr) ot) [kb (ip w),kb (h_ pl),kb (.dct kvs),kb (.lst (as.map .int)),kb (h_ w.1),kb (jq w.2),kb (.lst ((V2 w.1).map λ j=>.int (f j))),kb d7,My] :=
 stS (x.i0.ext x.same) (stS (.int _) (stS (x.i2.ext x.same) (stS (x.i3.ext x.same) (stS (.int _) (stS (x.i5.ext x.same) (stS x.Om (stS i7 (stN stE))))))))
theorem FU (n:Nat)(f:Nat->Int)(z:Int):((V2 n).map λ j=>Dt.int (f j))++[.int z]=(V2 (n+1)).map λ j=>.int (if j=n then z else f j):=by
 rw[eg,bp];congr 1
 ·exact aL λ j hj=>by rw[ag (by have:=ay.mp hj;lia)]
 ·simp
theorem Sy (x0 x3 x4 x5 x7 x8:g6 Dt){v:Int}(h:ou kvs (pl:Int)=kb v)(h8:w.1<=8):uG [x0,kb (h_ pl),kb (.dct kvs),x3,x4,x5,kb (.lst ((V2 w.1).map λ j=>.int (f j))),x7,x8]=kb (.rt (.lst ((V2 (w.1+1)).map λ j=>.int (if j=w.1 then v else f j)))):=by
 have e1:P9 (.dct kvs) (h_ pl)=kb (.int v):=by show(ou kvs (pl:Int)).map Dt.int=_;rw[h];rfl
 have e2:yy (.lst ((V2 w.1).map λ j=>.int (f j))) (.lst [.int v])=kb (.lst ((V2 (w.1+1)).map λ j=>.int (if j=w.1 then v else f j))):=by show(if ((V2 w.1).map λ j=>Dt.int (f j)).length+[Dt.int v].length<=1000 then kb (Dt.lst (((V2 w.1).map λ j=>Dt.int (f j))++[.int v])) else My)=_;rw[ae (by simp;lia),FU]
 generalize h_ pl=np,(V2 w.1).map (λ j=>Dt.int (f j))=q,(V2 (w.1+1)).map (λ j=>Dt.int (if j=w.1 then v else f j))=r at *;simp[uG,e1,e2]
theorem Sz (x0 x2 x4 x5 x7 x8:g6 Dt)(hl:pl<as.length)(h8:w.1<=8):uA [x0,kb (h_ pl),x2,kb (.lst (as.map .int)),x4,x5,kb (.lst ((V2 w.1).map λ j=>.int (f j))),x7,x8]=kb (.rt (.lst ((V2 (w.1+1)).map λ j=>.int (if j=w.1 then adD as pl else f j)))):=by
 have e1:dIx (.lst (as.map .int)) (h_ pl)=kb (.int (adD as pl)):=by show atI (as.map Dt.int) (pl:Int)=_;refine oK ?_;rw[aD,aH hl];unfold adD;rw[aA,aH hl];rfl
 have e2:yy (.lst ((V2 w.1).map λ j=>.int (f j))) (.lst [.int (adD as pl)])=kb (.lst ((V2 (w.1+1)).map λ j=>.int (if j=w.1 then adD as pl else f j))):=by show(if ((V2 w.1).map λ j=>Dt.int (f j)).length+[Dt.int (adD as pl)].length<=1000 then kb (Dt.lst (((V2 w.1).map λ j=>Dt.int (f j))++[.int (adD as pl)])) else My)=_;rw[ae (by simp;lia),FU]
 generalize as.map Dt.int=am,h_ pl=np,(V2 w.1).map (λ j=>Dt.int (f j))=q,(V2 (w.1+1)).map (λ j=>Dt.int (if j=w.1 then adD as pl else f j))=r at *;simp[uA,e1,e2]
theorem SA (hl:w.2.length<=30)(x0 x2 x3 x4 x6 x7 x8:g6 Dt):uN [x0,kb (h_ pl),x2,x3,x4,kb (jq w.2),x6,x7,x8]=kb (.tup ((nb w.2 pl).map h_)):=by have tk:=B0 (Aj w.2) hl pl;generalize h_ pl=np,jq w.2=tt,(nb w.2 pl).map h_=ps at *;simp[uN,tk]
theorem Qx {nr:V}{ot:Nat}(x:EH K w kvs as v0 v2 v3 v5 H0 p f H)(ho:ot<w.1)(h:∀ H',EH K w kvs as v0 v2 v3 v5 H0 p (λ i=>if i=ot then -1 else f i) H'->jS H H'->D.nx (sgE v0 pl v2 v3 w.1 v5 p (kb nr) (kb (cV ot))) H'):eB K D (sgE v0 pl v2 v3 w.1 v5 p (kb nr) (kb (cV ot))) H:=by refine⟨_,_,x.sat _ _,show uM _=kb (.int (-1)) from rfl,λ v H1 s1 i1=>?_⟩;rw[i1.int_inv];have x1:=x.ext s1;exact⟨_,rfl,_,rfl,p,_,_,ot,rfl,rfl,x1.hp,by rw[ak,bA];exact AE ho,h _ (x1.put ot (-1)) (s1.text.trans x1.text)⟩
theorem Qy {nr:V}{ot:g6 V}{ns:List Nat}(x:EH K w kvs as v0 v2 v3 v5 H0 p f H)(i7:Is K H nr (.tup (ns.map h_)))(hn:∀ j∈ns,j<w.1)
  (h:∀ ot H',EH K w kvs as v0 v2 v3 v5 H0 p (λ i=>if i∈ns then -1 else f i) H'->jS H H'->D.nx (sgE v0 pl v2 v3 w.1 v5 p (kb nr) ot) H'):eF K D (sgE v0 pl v2 v3 w.1 v5 p (kb nr) ot) H:=by
 refine⟨_,ns.map h_,x.Sx i7 ot,?_,n_.of (λ d hd=>by obtain⟨t,_,rfl⟩:=aE.mp hd;exact .int _),λ J H5 s5 ok=>?_⟩
 ·generalize ns.map h_=zs;simp[sF]
 ·have x5:=x.ext s5
  refine B5 ok (λ j σ' H'=>∃ (ot:g6 V),σ'=sgE v0 pl v2 v3 w.1 v5 p (kb nr) ot/\EH K w kvs as v0 v2 v3 v5 H0 p (λ i=>if i∈ns.take j then -1 else f i) H'/\jS H5 H')
   ⟨ot,rfl,?_,jS.refl⟩ (λ j σ' H' _ z=>by obtain⟨_,_,_,t⟩:=z;exact t) ?_ ?_
  ·have:(λ i=>if i∈ns.take 0 then -1 else f i)=f:=by funext i;simp
   rw[this];exact x5
  ·rintro j dd xv σ' H6 hj ixv ⟨ot,rfl,d6,t6⟩
   rw[aD]at hj;cases hnr:ns[j]? with
   | none=>rw[hnr]at hj;cases hj
   | some near =>
    rw[hnr]at hj;cases hj;have hx:=ixv.int_inv;subst hx;refine Qx d6 (hn near (bc hnr)) λ H7 d7 t7=>⟨_,rfl,?_,t6.trans t7⟩;have:(λ i=>if i∈ns.take (j+1) then (-1:Int) else f i)=λ i=>if i=near then -1 else if i∈ns.take j then -1 else f i:=by
     funext i;rw[fk,hnr];by_cases c:i=near
     ·simp[c]
     ·by_cases c2:i∈ns.take j
      ·simp[c,c2]
      ·simp[c,c2]
    rw[this];exact d7
  ·rintro σ' H6 ⟨ot,rfl,d6,t6⟩;rw[ak,fx]at d6;exact h _ _ d6 (s5.text.trans t6)
end
theorem U8 {σ:L2.St}(h:σ.length=9):∃ x0 x1 x2 x3 x4 x5 x6 x7 x8:g6 V,σ=[x0,x1,x2,x3,x4,x5,x6,x7,x8]:=by
 match σ,h with
 | [x0,x1,x2,x3,x4,x5,x6,x7,x8],_=>exact⟨_,_,_,_,_,_,_,_,_,rfl⟩
section
variable {K:g9}{w:Web}{kvs:List (Int×Int)}{as:List Int}{v0 v2 v3 v5:V}{H0 H:Hp}{p:Addr}{pl:Nat}{D:Ends}
theorem Qz {v:Int}(h:ou kvs (pl:Int)=kb v):Dt.lst ((V2 (w.1+1)).map λ j=>.int (if j=w.1 then v else if j=pl then 1 else 0))=jm (eqA w (gvD kvs) (adD as)) w.1 pl:=by unfold jm;congr 1;refine aL λ j _=>?_;unfold eqA;have:gvD kvs pl=kb v:=h;rw[this]
theorem QA (h:ou kvs (pl:Int)=My):Dt.lst ((V2 (w.1+1)).map λ j=>.int (if j=w.1 then adD as pl else if j=pl then ((nb w.2 pl).length:Int) else if j∈nb w.2 pl then -1 else 0))=jm (eqA w (gvD kvs) (adD as)) w.1 pl:=by unfold jm;congr 1;refine aL λ j _=>?_;unfold eqA;have:gvD kvs pl=My:=h;rw[this];rfl
theorem Good.QB (g:Good w)(hpl:pl<w.1)(hl:as.length=w.1)(hk:ou kvs (pl:Int)=My){x7 x8:g6 V}(x:EH K w kvs as v0 v2 v3 v5 H0 p (λ _=>0) H)
  (q:∀ v H',iA H0 H'->Is K H' v (jm (eqA w (gvD kvs) (adD as)) w.1 pl)->D.rt v H'):eR K D (sgE v0 pl v2 v3 w.1 v5 p x7 x8) H:=by
 refine⟨_,_,x.sat x7 x8,SA (by have:=g.len;lia) ..,λ nr H1 s1 i1=>?_⟩;have x1:=x.ext s1;refine Qy x1 i1 (λ j hj=>(g.jr hj).1) λ ot H2 x2 t2=>?_;have i2:Is K H2 nr (.tup ((nb w.2 pl).map h_)):=i1.text t2 (.tup (n_.of λ d hd=>by obtain⟨t,_,rfl⟩:=aE.mp hd;exact .int _));have ul:uL [kb (ip w),kb (h_ pl),kb (.dct kvs),kb (.lst (as.map .int)),kb (h_ w.1),kb (jq w.2),kb (.lst ((V2 w.1).map λ j=>.int (if j∈nb w.2 pl then -1 else 0))),kb (.tup ((nb w.2 pl).map h_)),My]=kb (.int ((nb w.2 pl).length:Int)):=by
  have:(((nb w.2 pl).map h_).length:Int)=((nb w.2 pl).length:Int):=by rw[ak]
  rw[<-this];generalize (nb w.2 pl).map h_=ps;simp[uL]
 refine⟨_,_,x2.Sx i2 ot,ul,λ v H3 s3 i3=>?_⟩;rw[i3.int_inv];have x3:=x2.ext s3;refine⟨_,rfl,_,rfl,p,_,_,pl,rfl,rfl,x3.hp,by rw[ak,bA];exact AE hpl,?_⟩;have x4:=x3.put pl ((nb w.2 pl).length:Int);refine⟨_,_,x4.sat _ _,Sz _ _ _ _ _ _ (Nat.lt_of_lt_of_eq hpl hl.symm) g.kg,λ H5 s5 v iv=>?_⟩
 ·exact q v H5 (x4.same.trans s5) (by rw[QA hk]at iv;exact iv)
theorem Good.N5 (g:Good w)(hpl:pl<w.1)(hl:as.length=w.1){σ:L2.St}(S:Sat K H σ [kb (ip w),kb (h_ pl),kb (.dct kvs),kb (.lst (as.map .int)),My,My,My,My,My])
  (q:∀ v H',iA H H'->Is K H' v (jm (eqA w (gvD kvs) (adD as)) w.1 pl)->D.rt v H'):Sw K D σ H:=by
 have h8:=g.kg;refine⟨_,_,S,show u1 _=kb (.nx [kb (ip w),kb (h_ pl),kb (.dct kvs),kb (.lst (as.map .int)),kb (h_ w.1),kb (jq w.2),My,My,My]) from rfl,λ H1 s1 σ1 S1=>?_⟩;obtain⟨x0,x1,x2,x3,x4,x5,x6,x7,x8,rfl⟩:=U8 S1.len;obtain⟨v0,e0,i0⟩:=S1.at_ 0 _ rfl;obtain⟨v1,e1,i1⟩:=S1.at_ 1 _ rfl;obtain⟨v2,e2,i2⟩:=S1.at_ 2 _ rfl;obtain⟨v3,e3,i3⟩:=S1.at_ 3 _ rfl;obtain⟨v4,e4,i4⟩:=S1.at_ 4 _ rfl;obtain⟨v5,e5,i5⟩:=S1.at_ 5 _ rfl;rw[i1.int_inv]at e1;rw[i4.int_inv]at e4;cases e0;cases e1;cases e2;cases e3;cases e4;cases e5;refine⟨Nat.le_of_ble_eq_true rfl,λ l hlf=>⟨_,rfl,?_⟩⟩;refine⟨l,(w.1:Int),[V.int 0],rfl,rfl,ir,by lia,by lia,by rw[sizeLine_eq];simp;lia,λ p hp=>?_⟩;have s2:iA H1 (upd H1 l (.lst [V.int 0])):=iA.upd hlf;have s3:iA (upd H1 l (.lst [V.int 0])) (upd (upd H1 l (.lst [V.int 0])) p (.lst (V3 (w.1:Int).toNat [V.int 0]).flatten)):=iA.upd hp;have er:(V3 (w.1:Int).toNat [V.int 0]).flatten=rwV w.1 (λ _=>0):=by
  rw[cH];show _=(V2 w.1).map λ _=>V.int 0;clear hpl hl h8 s3 hp q S S1 i0 i5 g;generalize w.1=n;induction n with
  | zero=>rfl
  | succ n ih=>rw[List.replicate_succ',List.flatten_append,ih,eg,bp];rfl
 rw[er]at s3 ⊢;generalize upd H1 l (.lst [V.int 0])=H2 at *;have x:EH K w kvs as v0 v2 v3 v5 H2 p (λ _=>0) (upd H2 p (.lst (rwV w.1 (λ _=>0)))):=⟨s3,hp,ir,i0.ext s2,i2.ext s2,i3.ext s2,i5.ext s2⟩;have s12:=s1.trans s2;generalize upd H2 p (.lst (rwV w.1 (λ _=>0)))=H3 at x;show eI K _ (sgE v0 pl v2 v3 w.1 v5 p x7 x8) H3;obtain⟨d,rfl,rd⟩:=(x.i2.ext x.same).qD;have dg:sj H3 d (cV pl) ((ou kvs (pl:Int)).map V.int):=by have:=BU kvs (pl:Int);rw[<-this];exact .inl ⟨kvD kvs,Sum.inl (pl:Int),rd,rfl,rfl⟩
 refine⟨_,rfl,_,rfl,d,_,rfl,dg,_,rfl,?_⟩;cases hk:ou kvs (pl:Int) with
 | none=>exact Gu (g.QB hpl hl hk x λ v H' s i=>q v H' (s12.trans s) i)
 | some v =>refine Gv ?_;refine⟨_,rfl,_,rfl,p,_,_,pl,rfl,rfl,x.hp,by rw[ak,bA];exact AE hpl,?_⟩;have x4:=x.put pl 1;exact⟨_,_,x4.sat _ _,Sy _ _ _ _ _ _ hk h8,λ H5 s5 u iu=>q u H5 ((s12.trans x4.same).trans s5) (by rw[Qz (as:=as) hk]at iu;exact iu)⟩
end
def zc (r l:List Int)(k:Nat)(fo:Int):List Int:=(r.zip l).map λ q=>(l.getD k 0*q.1-r.getD k 0*q.2) / fo
def mE:List Dt->g6 Dt
 | [.lst rs,.lst ls,.int k,.int fo]=>(kn rs).bind λ r=>(kn ls).bind λ l=>if 0<=k/\k.toNat<r.length/\k.toNat<l.length/\r.length<=1000/\(0<fo/\bd fo)/\(∀ x∈r,bd x)/\(∀ x∈l,bd x) then kb (.lst ((zc r l k.toNat fo).map .int)) else My
 | _=>My
def uz:DE->g6 RD:=(jk (gLC ["one","other"] [3,1,2,0] (GP V1 V1 (hU (hW 0) (hU (hW 1) hX))) (kW 0 1) jL (iG GK (iG (dI (·-·)) (iG pL (iG dIx (hW 3) (hW 4)) (hW 0)) (iG pL (iG dIx (hW 5) (hW 4)) (hW 1))) (hW 2))))
abbrev G2:List Str:=["row","lead","at","former"]
theorem D9 {l:List Int}{k:Nat}(h:k<l.length):dIx (.lst (l.map .int)) (.int (k:Int))=kb (.int (l.getD k 0)):=by show atI (l.map Dt.int) (k:Int)=_;refine oK ?_;rw[aD,aH h,aA,aH h];rfl
theorem getD_mem {l:List Int}{k:Nat}(h:k<l.length):l.getD k 0∈l:=by rw[aA,aH h];exact eM h
theorem D_:Hg 4 G2 mE uz:=by
 intro ds d hl h;match ds,h with
 | [.lst rs,.lst ls,.int k,.int fo],h =>
  obtain⟨r,e1,h1⟩:=hZ (show(kn rs).bind _=_ from h);obtain⟨l,e2,h2⟩:=hZ h1;have e1:=k_ e1;have e2:=k_ e2;clear h h1;subst e1 e2;by_cases hc:0<=k/\k.toNat<r.length/\k.toNat<l.length/\r.length<=1000/\(0<fo/\bd fo)/\(∀ x∈r,bd x)/\(∀ x∈l,bd x)
  ·rw[ae hc]at h2
   cases h2;obtain⟨c0,c1,c2,c3,c4,c5,c6⟩:=hc;obtain⟨m,rfl⟩:∃ m:Nat,k=(m:Int):=⟨k.toNat,by lia⟩;rw[cH]at *;have i1:=D9 c1;have i2:=D9 c2;have zp:IV V1 V1 [.lst (r.map .int),.lst (l.map .int)]=kb ((r.zip l).map λ q=>.tup [.int q.1,.int q.2]):=by show kb (((r.map Dt.int).zip (l.map Dt.int)).map λ(p,q)=>Dt.tup [p,q])=_;rw[List.zip_map,aR];rfl
   have lc:=kz (enc:=λ q:Int×Int=>Dt.tup [.int q.1,.int q.2]) (gg:=kW 0 1) (ge:=iG GK (iG (dI (·-·)) (iG pL (iG dIx (hW 3) (hW 4)) (hW 0)) (iG pL (iG dIx (hW 5) (hW 4)) (hW 1))) (hW 2)) (δc:=[My,My,kb (.int fo),kb (.lst (l.map .int)),kb (.int (m:Int)),kb (.lst (r.map .int))])
    (δa:=λ q=>[kb (.int q.1),kb (.int q.2),kb (.int fo),kb (.lst (l.map .int)),kb (.int (m:Int)),kb (.lst (r.map .int))]) (enc':=λ q=>.int ((l.getD m 0*q.1-r.getD m 0*q.2) / fo)) (r.zip l) λ q hq=>⟨rfl,by
     have q1:bd q.1:=c5 _ (ee hq).1;have q2:bd q.2:=c6 _ (ee hq).2;have m1:pL (.int (l.getD m 0)) (.int q.1)=kb (.int (l.getD m 0*q.1)):=by show(if bd _/\bd _ then _ else _)=_;rw[ae ⟨c6 _ (getD_mem c2),q1⟩]
     have m2:pL (.int (r.getD m 0)) (.int q.2)=kb (.int (r.getD m 0*q.2)):=by show(if bd _/\bd _ then _ else _)=_;rw[ae ⟨c5 _ (getD_mem c1),q2⟩]
     have d1:GK (.int (l.getD m 0*q.1-r.getD m 0*q.2)) (.int fo)=kb (.int ((l.getD m 0*q.1-r.getD m 0*q.2) / fo)):=by show(if _ then _ else _)=_;rw[ae c4]
     generalize r.getD m 0=rk,l.getD m 0=lk,r.map Dt.int=rm,l.map Dt.int=lm at *;simp[i1,i2,m1,m2,d1]⟩
   have hn:((r.zip l).map λ q=>Dt.tup [.int q.1,.int q.2]).length<=1000:=by rw[ak,gN];lia
   have er:(zc r l m fo).map Dt.int=(r.zip l).map λ q=>.int ((l.getD m 0*q.1-r.getD m 0*q.2) / fo):=by unfold zc;rw[aR];rfl
   refine⟨.rt (.lst ((zc r l m fo).map .int)),?_,rfl⟩;rw[er];generalize r.map Dt.int=rm,l.map Dt.int=lm,(r.zip l).map (λ q=>Dt.tup [.int q.1,.int q.2])=zz,(r.zip l).map (λ q=>Dt.int ((l.getD m 0*q.1-r.getD m 0*q.2) / fo))=res at *;simp[uz,zp,lc,hn]
  ·rw[ag hc]at h2;cases h2
open Dt0 (Tz fm)
def rwI (a:Nat->Nat->Int)(n i:Nat):List Int:=(V2 (n+1)).map (a i)
theorem tG (a:Nat->Nat->Int)(n i:Nat):jm a n i=.lst ((rwI a n i).map .int):=by unfold jm rwI;rw[aR];rfl
theorem Ea {a:Nat->Nat->Int}{n i k:Nat}(h:k<=n):(rwI a n i).getD k 0=a i k:=by unfold rwI;rw[aA,aD,bx (by lia)];rfl
theorem vY (a:Nat->Nat->Int)(n i:Nat):(rwI a n i).length=n+1:=by simp[rwI]
def oX (a:Nat->Nat->Int)(n k:Nat):Dt:=.lst ((V2 n).map λ i=>jm (Tz a k) n i)
structure l7 (a:Nat->Nat->Int)(n:Nat):Prop where
 kg:n<=8
 lead:∀ k,k<=n->0<fm a k/\bd (fm a k)
 ent:∀ k i j,k<=n->i<n->j<=n->bd (Tz a k i j)
def aOf (rs:List Dt)(i j:Nat):Int:=match rs[i]? with
 | some (.lst es)=>(match es[j]? with | some (.int z)=>z | _=>0)
 | _=>0
open Classical in
def oA:List Dt->g6 Dt
 | [.lst rs]=>if rs=(V2 rs.length).map (jm (aOf rs) rs.length)/\l7 (aOf rs) rs.length then kb (.tup ((V2 rs.length).map λ i=>iF (V4 (Tz (aOf rs) rs.length i rs.length) (fm (aOf rs) rs.length)))) else My
 | _=>My
def G3:DE->g6 RD:=(i_ (jW 4 (iG dIx (hW 1) (hW 3))) (i_ (jW 1 (gLC ["k","row"] [3,4,2] (xC V1 (hU (hW 1) hX)) (kW 0 1) jL (gIf (gB (iG kX (hW 0) (hW 2))) (hW 1) (ib 4 mE (hU (hW 1) (hU (hW 3) (hU (hW 2) (hU (hW 4) hX)))))))) (jW 2 (iG dIx (hW 4) (hW 3)))))
def MI:DE->g6 RD:=(jk (ju lP (hU (gLC ["row"] [2] (gI kx (hW 1)) (ggN 0) jL (ib 2 jX (hU (iG dIx (hW 0) (gUn uk (gC (.int 1)))) (hU (hW 1) hX)))) hX)))
def xH:DE->g6 RD:=(i_ (jW 1 (ju vS (hU (hW 0) hX))) (i_ (jW 2 (gC (.int 1))) (i_ (DK (nA (hU (ju qV (hU (hW 0) hX)) hX)) (ggN 3) (i_ (jW 4 (iG dIx (hW 1) (hW 3))) (i_ (jW 1 (gLC ["k","row"] [3,4,2] (xC V1 (hU (hW 1) hX)) (kW 0 1) jL (gIf (gB (iG kX (hW 0) (hW 2))) (hW 1) (ib 4 mE (hU (hW 1) (hU (hW 3) (hU (hW 2) (hU (hW 4) hX)))))))) (jW 2 (iG dIx (hW 4) (hW 3)))))) (jk (ju lP (hU (gLC ["row"] [2] (gI kx (hW 1)) (ggN 0) jL (ib 2 jX (hU (iG dIx (hW 0) (gUn uk (gC (.int 1)))) (hU (hW 1) hX)))) hX))))))
abbrev J_:List Str:=["rows","table","former","at","lead"]
theorem Cp:xH=i_ (jW 1 (ju vS (hU (hW 0) hX))) (i_ (jW 2 (gC (.int 1))) (i_ (DK (nA (hU (ju qV (hU (hW 0) hX)) hX)) (ggN 3) G3) MI)):=rfl
section
variable {a:Nat->Nat->Int}{n:Nat}
theorem l7.cl (o:l7 a n){k i:Nat}(hk:k<n)(hi:i<n)(ne:i≠k):mE [jm (Tz a k) n i,jm (Tz a k) n k,h_ k,.int (fm a k)]=kb (jm (Tz a (k+1)) n i):=by
 have h8:=o.kg;rw[tG,tG,tG];show(kn ((rwI (Tz a k) n i).map .int)).bind (λ r=>(kn ((rwI (Tz a k) n k).map .int)).bind λ l=>if 0<=(k:Int)/\(k:Int).toNat<r.length/\(k:Int).toNat<l.length/\r.length<=1000/\(0<fm a k/\bd (fm a k))/\(∀ x∈r,bd x)/\(∀ x∈l,bd x) then kb (Dt.lst ((zc r l (k:Int).toNat (fm a k)).map .int)) else My)=_;have bdr:∀ i,i<n->∀ x∈rwI (Tz a k) n i,bd x:=λ i hi x hx=>by obtain⟨j,hj,rfl⟩:=aE.mp hx;exact o.ent k i j (by lia) hi (by have:=ay.mp hj;lia)
 rw[om,om,af,af,cH,ae ⟨by lia,by rw[vY];lia,by rw[vY];lia,by rw[vY];lia,o.lead k (by lia),bdr i hi,bdr k hk⟩];congr 3;unfold zc;rw[Ea (by lia),Ea (by lia)];unfold rwI;rw[List.zip_map',aR];refine aL λ j _=>?_;show(Tz a k k k*Tz a k i j-Tz a k i k*Tz a k k j) / fm a k=if i=k then _ else _
 rw[ag ne]
theorem QC {k i:Nat}(h:i<n):dIx (oX a n k) (h_ i)=kb (jm (Tz a k) n i):=by show atI ((V2 n).map λ i=>jm (Tz a k) n i) (i:Int)=_;refine oK ?_;rw[aD,bx h];rfl
theorem Eb {k i j:Nat}(h:j<=n):dIx (jm (Tz a k) n i) (h_ j)=kb (.int (Tz a k i j)):=by rw[tG];have:=D9 (l:=rwI (Tz a k) n i) (k:=j) (by rw[vY];lia);rw[Ea h]at this;exact this
theorem Ka (k i:Nat):dIx (jm (Tz a k) n i) (.int (-1))=kb (.int (Tz a k i n)):=by show atI ((V2 (n+1)).map λ j=>Dt.int (Tz a k i j)) (-1)=_;rw[eg,bp];exact Ic _ _
theorem l7.turn (o:l7 a n){k:Nat}(hk:k<n)(x4:g6 Dt)(x0:Dt):G3 [kb x0,kb (oX a n k),kb (.int (fm a k)),kb (h_ k),x4]=kb (.nx [kb x0,kb (oX a n (k+1)),kb (.int (fm a (k+1))),kb (h_ k),kb (jm (Tz a k) n k)]):=by
 have h8:=o.kg;have t1:=QC (a:=a) (k:=k) hk;have r1:=Eb (a:=a) (n:=n) (k:=k) (i:=k) (j:=k) (by lia);have en:=xF V1 (x:=oX a n k) (λ i=>jm (Tz a k) n i) n rfl;have lc:=kz (enc:=λ i=>Dt.tup [h_ i,jm (Tz a k) n i]) (gg:=kW 0 1) (ge:=gIf (gB (iG kX (hW 0) (hW 2))) (hW 1) (ib 4 mE (hU (hW 1) (hU (hW 3) (hU (hW 2) (hU (hW 4) hX)))))) (δc:=[My,My,kb (h_ k),kb (jm (Tz a k) n k),kb (.int (fm a k))])
  (δa:=λ i=>[kb (h_ i),kb (jm (Tz a k) n i),kb (h_ k),kb (jm (Tz a k) n k),kb (.int (fm a k))]) (enc':=λ i=>jm (Tz a (k+1)) n i) (V2 n) λ i hi=>⟨rfl,by
   have hi:=ay.mp hi;have e:kX (h_ i) (h_ k)=kb (.bl (i==k)):=by show kb (Dt.bl ((i:Int)==(k:Int)))=_;rw[mT]
   by_cases c:i=k
   ·have rr:jm (Tz a k) n i=jm (Tz a (k+1)) n i:=by
     unfold jm;congr 1;refine aL λ j _=>?_;show Dt.int (Tz a k i j)=.int (if i=k then Tz a k i j else _);rw[ae c]
    rw[<-rr];generalize jm (Tz a k) n k=rk,jm (Tz a k) n i=ri at *;have ck:(i==k)=V0:=by simpa using c
    rw[ck]at e;generalize h_ k=nk,h_ i=ni at *;simp[e]
   ·have cl:=o.cl hk hi c
    generalize jm (Tz a k) n k=rk,jm (Tz a k) n i=ri,jm (Tz a (k+1)) n i=rr at *;have ck:(i==k)=V1:=by simpa using c
    rw[ck]at e;generalize h_ k=nk,h_ i=ni at *;simp[e,cl]⟩
 have hn:((V2 n).map λ i=>Dt.tup [h_ i,jm (Tz a k) n i]).length<=1000:=by simp;lia
 have ef:fm a (k+1)=Tz a k k k:=rfl;rw[ef];show _=kb (RD.nx [kb x0,kb (.lst ((V2 n).map λ i=>jm (Tz a (k+1)) n i)),_,_,_]);generalize h_ k=nk,jm (Tz a k) n k=rk,oX a n k=tk,(V2 n).map (λ i=>Dt.tup [h_ i,jm (Tz a k) n i])=zz,(V2 n).map (λ i=>jm (Tz a (k+1)) n i)=res at *;simp[G3,t1,en,lc,hn,r1]
theorem l7.loop (o:l7 a n)(x0:Dt):∀ (m k:Nat) (x3 x4:g6 Dt),k+m=n->∃ y3 y4,pE (ggN 3) G3 [kb x0,kb (oX a n k),kb (.int (fm a k)),x3,x4] ((List.range' k m).map h_)=kb (.nx [kb x0,kb (oX a n n),kb (.int (fm a n)),y3,y4])
 | 0,k,x3,x4,h=>by
  have:k=n:=by lia
  subst this;exact⟨x3,x4,rfl⟩
 | m+1,k,x3,x4,h=>by obtain⟨y3,y4,ih⟩:=l7.loop o x0 m (k+1) (kb (h_ k)) (kb (jm (Tz a k) n k)) (by lia);refine⟨y3,y4,?_⟩;rw[List.range'_succ,au,pE,R7,af];show(G3 [kb x0,kb (oX a n k),kb (.int (fm a k)),kb (h_ k),x4]).bind _=_;rw[o.turn (by lia),af];exact ih
theorem l7.ret (o:l7 a n)(x0 x3 x4:g6 Dt):MI [x0,kb (oX a n n),kb (.int (fm a n)),x3,x4]=kb (.rt (.tup ((V2 n).map λ i=>iF (V4 (Tz a n i n) (fm a n))))):=by
 have h8:=o.kg;have ld:=o.lead n (aq _);have lc:=kz (enc:=λ i=>jm (Tz a n) n i) (gg:=ggN 0) (ge:=ib 2 jX (hU (iG dIx (hW 0) (gUn uk (gC (.int 1)))) (hU (hW 1) hX))) (δc:=[My,kb (.int (fm a n))]) (δa:=λ i=>[kb (jm (Tz a n) n i),kb (.int (fm a n))]) (enc':=λ i=>iF (V4 (Tz a n i n) (fm a n))) (V2 n) λ i _=>⟨rfl,by
  have rl:=Ka (a:=a) (n:=n) n i;have ff:jX [.int (Tz a n i n),.int (fm a n)]=kb (iF (V4 (Tz a n i n) (fm a n))):=by rw[uj,ae ld]
  generalize iF (V4 (Tz a n i n) (fm a n))=en,jm (Tz a n) n i=ri at *;simp[gUn,uk,rl,ff,-uj]⟩
 have hn:((V2 n).map λ i=>jm (Tz a n) n i).length<=1000:=by simp;lia
 unfold oX;generalize (V2 n).map (λ i=>jm (Tz a n) n i)=zz,(V2 n).map (λ i=>iF (V4 (Tz a n i n) (fm a n)))=res at *;simp[MI,lc,hn]
end
open Classical in
theorem G4:Hg 1 J_ oA xH:=by
 intro ds d hl h;match ds,h with
 | [.lst rs],h =>
  have h:(if rs=(V2 rs.length).map (jm (aOf rs) rs.length)/\l7 (aOf rs) rs.length then kb (Dt.tup ((V2 rs.length).map λ i=>iF (V4 (Tz (aOf rs) rs.length i rs.length) (fm (aOf rs) rs.length)))) else My)=kb d:=by unfold oA at h;exact h
  by_cases hc:rs=(V2 rs.length).map (jm (aOf rs) rs.length)/\l7 (aOf rs) rs.length
  ·rw[ae hc]at h
   cases h;obtain⟨e,o⟩:=hc;have h8:=o.kg;generalize hn:rs.length=n,aOf rs=a at *;have et:Dt.lst rs=oX a n 0:=by rw[e];rfl
   refine⟨.rt _,?_,rfl⟩;obtain⟨y3,y4,lp⟩:=o.loop (oX a n 0) n 0 My My (by lia);have rt:=o.ret (kb (oX a n 0)) y3 y4;have hr:yu [h_ n]=kb ((V2 n).map h_):=ow (n:=n) (by lia);rw[<-List.range_eq_range']at lp;have l1:qV [oX a n 0]=kb (h_ n):=by rw[<-et];show kb (Dt.int (rs.length:Int))=_;rw[hn]
   have l2:vS [oX a n 0]=kb (oX a n 0):=rfl;have f0:fm a 0=1:=rfl;rw[f0]at lp;rw[Cp,et];show i_ _ _ [kb (oX a n 0),My,My,My,My]=_;generalize h_ n=nn,MI=rr,G3=bb,oX a n 0=t0,oX a n n=tn,(V2 n).map (λ i=>iF (V4 (Tz a n i n) (fm a n)))=res,(V2 n).map h_=rs' at *;simp[l1,l2,hr,lp,rt]
  ·rw[ag hc]at h;cases h
open Dt0 (Tz fm)
theorem Cq {a b:Nat->Nat->Int}{n:Nat}(h:∀ i j,i<n->j<=n->a i j=b i j):∀ k,k<=n->(∀ i j,i<n->j<=n->Tz a k i j=Tz b k i j)/\fm a k=fm b k
 | 0,_=>⟨h,rfl⟩
 | k+1,hk=>by obtain⟨h1,h2⟩:=Cq h k (by lia);refine⟨λ i j hi hj=>?_,h1 k k (by lia) (by lia)⟩;show(if i=k then Tz a k i j else (Tz a k k k*Tz a k i j-Tz a k i k*Tz a k k j) / fm a k)=(if i=k then Tz b k i j else (Tz b k k k*Tz b k i j-Tz b k i k*Tz b k k j) / fm b k);rw[h1 i j hi hj,h1 k k (by lia) (by lia),h1 i k hi (by lia),h1 k j (by lia) hj,h2]
theorem FV {a:Nat->Nat->Int}{n i j:Nat}(hi:i<n)(hj:j<=n):aOf ((V2 n).map (jm a n)) i j=a i j:=by unfold aOf;rw[aD,bx hi];show(match ((V2 (n+1)).map λ j=>Dt.int (a i j))[j]? with | some (.int z)=>z | _=>0)=_;rw[aD,bx (by lia)];rfl
open Classical in
theorem l7.solved {a:Nat->Nat->Int}{n:Nat}(o:l7 a n):oA [.lst ((V2 n).map (jm a n))]=kb (.tup ((V2 n).map λ i=>iF (V4 (Tz a n i n) (fm a n)))):=by
 have hl:((V2 n).map (jm a n)).length=n:=by simp
 have cg:=Cq (a:=aOf ((V2 n).map (jm a n))) (b:=a) (n:=n) λ i j hi hj=>FV hi hj;have hc:(V2 n).map (jm a n)=(V2 n).map (jm (aOf ((V2 n).map (jm a n))) n)/\l7 (aOf ((V2 n).map (jm a n))) n:=by refine⟨aL λ i hi=>?_,o.kg,λ k hk=>by rw[(cg k hk).2];exact o.lead k hk,λ k i j hk hi hj=>by rw[(cg k hk).1 i j hi hj];exact o.ent k i j hk hi hj⟩;unfold jm;congr 1;refine aL λ j hj=>?_;have h1:=ay.mp hi;have h2:=ay.mp hj;have:=FV (a:=a) h1 (show j<=n by lia);unfold jm at this;rw[this]
 have e2:(V2 n).map (λ i=>iF (V4 (Tz (aOf ((V2 n).map (jm a n))) n i n) (fm (aOf ((V2 n).map (jm a n))) n)))=(V2 n).map λ i=>iF (V4 (Tz a n i n) (fm a n)):=aL λ i hi=>by rw[(cg n (aq _)).1 i n (ay.mp hi) (aq _),(cg n (aq _)).2]
 unfold oA;simp only[hl];rw[ae hc,e2]
theorem Good.Cr {w:Web}(g:Good w)(i:Nat):dg w i<=7:=by
 unfold dg;cases h:nb w.2 i with
 | nil=>exact aZ _
 | cons x r =>have:=g.jr (p:=i) (j:=x) (by rw[h];exact av);rw[<-h];exact g.Qj i this.2.1
section
variable {w:Web}(g:Good w){gv:Nat->g6 Int}{ad:Nat->Int}
include g
theorem Good.zy (hv:∀ i v,gv i=kb v->v.natAbs<=1000)(ha:∀ i,(ad i).natAbs<=1000)(i j:Nat):(eqA w gv ad i j).natAbs<=1000:=by
 unfold eqA;cases h:gv i with
 | some v =>
  show(if j=w.1 then v else if j=i then 1 else 0:Int).natAbs<=1000;by_cases c:j=w.1
  ·rw[ae c];exact hv i v h
  ·rw[ag c]
   by_cases c2:j=i
   ·rw[ae c2];decide
   ·rw[ag c2];decide
 | none =>
  show(if j=w.1 then ad i else if j=i then (dg w i:Int) else if j∈nb w.2 i then -1 else 0:Int).natAbs<=1000;by_cases c:j=w.1
  ·rw[ae c];exact ha i
  ·rw[ag c]
   by_cases c2:j=i
   ·rw[ae c2];have:=g.Cr i;lia
   ·rw[ag c2]
    by_cases c3:j∈nb w.2 i
    ·rw[ae c3];decide
    ·rw[ag c3];decide
theorem Good.AF (hg:∃ p,p<w.1/\gv p≠My)(hv:∀ i v,gv i=kb v->v.natAbs<=1000)(ha:∀ i,(ad i).natAbs<=1000) :
  l7 (eqA w gv ad) w.1/\(∀ i,V4 (Tz (eqA w gv ad) w.1 i w.1) (fm (eqA w gv ad) w.1)=sol w gv ad i)/\∀ i,(sol w gv ad i).num.natAbs<2 ^ 200/\(sol w gv ad i).den<2 ^ 200:=by
 have mm:=g.mm (ad:=ad) hg;have ab:=λ k (hk:k<=w.1) i j=>Dt0.Ob g.kg mm.ne (g.zy hv ha) hk i j;have pw:(2:Nat) ^ 200<=2 ^ 4000:=dS (by decide) (by decide);have pos:∀ k,k<=w.1->0<fm (eqA w gv ad) k:=λ k hk=>by have h1:=mm.DZ k hk;rw[<-(Dt0.zr mm.ne k hk).2.1]at h1;exact Rat.intCast_pos.mp h1
 have so:l7 (eqA w gv ad) w.1:=⟨g.kg,λ k hk=>⟨pos k hk,aB (ab k hk 0 0).2 pw⟩,λ k i j hk _ _=>aB (ab k hk i j).1 pw⟩;have eq:∀ i,V4 (Tz (eqA w gv ad) w.1 i w.1) (fm (eqA w gv ad) w.1)=sol w gv ad i:=λ i=>by obtain⟨t1,t2,t3⟩:=Dt0.zr mm.ne w.1 (aq _);rw[gA,t1,t2];show _=Dt0.rd (Dt0.qA (eqA w gv ad)) w.1 i w.1;rw[gX,Rat.mul_assoc,cT _ t3,Rat.mul_one]
 refine⟨so,eq,λ i=>?_⟩;have p:=pos w.1 (aq _);obtain⟨b1,b2⟩:=ab w.1 (aq _) i w.1;rw[<-eq i];obtain⟨d1,d2⟩:=oQ (a:=Tz (eqA w gv ad) w.1 i w.1) p;obtain⟨g1,g2⟩:=Ai (a:=Tz (eqA w gv ad) w.1 i w.1) p;generalize fm (eqA w gv ad) w.1=f,Tz (eqA w gv ad) w.1 i w.1=t,V4 (Tz (eqA w gv ad) w.1 i w.1) (fm (eqA w gv ad) w.1)=q at *;constructor
 ·rw[d1];refine cB ?_ b1;exact f_ _ _
 ·have:(q.den:Int)<=f:=by rw[d2];exact Int.ediv_le_self _ (by lia)
  have:q.den<=f.natAbs:=by lia
  exact cB this b2
end
structure xI (w:Web)(kvs:List (Int×Int))(as:List Int):Prop where
 len:as.length=w.1
 has:∃ p,p<w.1/\gvD kvs p≠My
 vs:∀ i v,gvD kvs i=kb v->v.natAbs<=1000
 ads:∀ a∈as,a.natAbs<=1000
open Classical in
def kA:List Dt->g6 Dt
 | [x,.dct kvs,.lst es]=>(dW x).bind λ w=>(kn es).bind λ as=>if xI w kvs as then kb (.tup ((V2 w.1).map λ i=>iF (sol w (gvD kvs) (adD as) i))) else My
 | _=>My
def rM:DE->g6 RD:=(jk (ib 1 oA (hU (gLC ["place"] [0,1,2] (nA (hU (iG dIx (hW 0) (gC (.int 0))) hX)) (ggN 0) jL (ib 4 oW (hU (hW 1) (hU (hW 0) (hU (hW 2) (hU (hW 3) hX)))))) hX)))
abbrev Ec:List Str:=["web","given","added"]
open Classical in
theorem Kb {w:Web}(g:Good w){kvs:List (Int×Int)}{as:List Int}(b:xI w kvs as):kA [ip w,.dct kvs,.lst (as.map .int)]=kb (.tup ((V2 w.1).map λ i=>iF (sol w (gvD kvs) (adD as) i))):=by unfold kA;show(dW (ip w)).bind (λ w=>(kn (as.map .int)).bind λ as=>if xI w kvs as then kb (Dt.tup ((V2 w.1).map λ i=>iF (sol w (gvD kvs) (adD as) i))) else My)=_;rw[j7 g,om,af,af,ae b]
theorem uB {as:List Int}(h:∀ a∈as,a.natAbs<=1000)(i:Nat):(adD as i).natAbs<=1000:=by
 unfold adD;rw[aA];cases e:as[i]? with
 | none=>decide
 | some a=>exact h a (bc e)
open Classical in
theorem Cs:Hg 3 Ec kA rM:=by
 intro ds d hl h;match ds,h with
 | [x,.dct kvs,.lst es],h =>
  have h:(dW x).bind (λ w=>(kn es).bind λ as=>if xI w kvs as then kb (Dt.tup ((V2 w.1).map λ i=>iF (sol w (gvD kvs) (adD as) i))) else My)=kb d:=by unfold kA at h;exact h
  obtain⟨w,e1,h1⟩:=hZ h;obtain⟨as,e2,h2⟩:=hZ h1;obtain⟨rfl,g⟩:=kf e1;have e2:=k_ e2;clear h h1;subst e2;by_cases hc:xI w kvs as
  ·rw[ae hc]at h2
   cases h2;obtain⟨so,eq,_⟩:=g.AF (ad:=adD as) hc.has hc.vs (uB hc.ads);have sv:=so.solved;have er:(V2 w.1).map (λ i=>iF (V4 (Tz (eqA w (gvD kvs) (adD as)) w.1 i w.1) (fm (eqA w (gvD kvs) (adD as)) w.1)))=(V2 w.1).map λ i=>iF (sol w (gvD kvs) (adD as) i):=aL λ i _=>by rw[eq i]
   rw[er]at sv;refine⟨.rt (.tup ((V2 w.1).map λ i=>iF (sol w (gvD kvs) (adD as) i))),?_,rfl⟩;have h8:=g.kg;have hr:yu [h_ w.1]=kb ((V2 w.1).map h_):=ow (n:=w.1) (by lia);have ix:dIx (ip w) (.int 0)=kb (h_ w.1):=rfl;have lc:=kz (enc:=h_) (gg:=ggN 0) (ge:=ib 4 oW (hU (hW 1) (hU (hW 0) (hU (hW 2) (hU (hW 3) hX))))) (δc:=[My,kb (ip w),kb (.dct kvs),kb (.lst (as.map .int))]) (δa:=λ i=>[kb (h_ i),kb (ip w),kb (.dct kvs),kb (.lst (as.map .int))]) (enc':=jm (eqA w (gvD kvs) (adD as)) w.1) (V2 w.1) λ i hi=>⟨rfl,by
    have eo:oW [ip w,h_ i,.dct kvs,.lst (as.map .int)]=kb (jm (eqA w (gvD kvs) (adD as)) w.1 i):=by show(dW (ip w)).bind (λ w=>(ja (h_ i)).bind λ p=>(kn (as.map .int)).bind λ as=>if p<w.1/\as.length=w.1 then kb (jm (eqA w (gvD kvs) (adD as)) w.1 p) else My)=_;rw[j7 g,iY,om,af,af,af,ae ⟨ay.mp hi,hc.len⟩]
    generalize h_ i=ni,ip w=ww,as.map Dt.int=am,jm (eqA w (gvD kvs) (adD as)) w.1 i=r at *;simp[eo]⟩
   have hn:((V2 w.1).map h_).length<=1000:=by simp;lia
   generalize h_ w.1=nw,ip w=ww,as.map Dt.int=am,(V2 w.1).map h_=rs,(V2 w.1).map (jm (eqA w (gvD kvs) (adD as)) w.1)=rows,(V2 w.1).map (λ i=>iF (sol w (gvD kvs) (adD as) i))=res at *;simp[rM,ix,hr,lc,hn,sv]
  ·rw[ag hc]at h2;cases h2
section
variable {w:Web}(g:Good w)
include g
end
def Kc:Dt->Dt->g6 Dt
 | .int k,.int v=>kb (.dct [(k,v)])
 | _,_=>My
def SD:Dt->Dt->Dt->Dt->g6 Dt
 | .int k,.int v,.int k2,.int v2=>if k=k2 then My else kb (.dct [(k,v),(k2,v2)])
 | _,_,_,_=>My
def FW (gk gv:DE->g6 Dt):DE->g6 Dt:=λ δ=>(gk δ).bind λ x=>(gv δ).bind λ y=>Kc x y
def Oo (gk gv gk2 gv2:DE->g6 Dt):DE->g6 Dt:=λ δ=>(gk δ).bind λ x=>(gv δ).bind λ y=>(gk2 δ).bind λ x2=>(gv2 δ).bind λ y2=>SD x y x2 y2
@[simp] theorem U9 {δ:DE} (gk gv:DE->g6 Dt):FW gk gv δ=(gk δ).bind λ x=>(gv δ).bind λ y=>Kc x y:=rfl
@[simp] theorem U_ {δ:DE} (gk gv gk2 gv2:DE->g6 Dt):Oo gk gv gk2 gv2 δ=(gk δ).bind λ x=>(gv δ).bind λ y=>(gk2 δ).bind λ x2=>(gv2 δ).bind λ y2=>SD x y x2 y2:=rfl
theorem Kd {x y d:Dt}(h:Kc x y=kb d):∃ k v,x=.int k/\y=.int v/\d=.dct [(k,v)]:=by
 cases x with
 | int k=>cases y with
  | int v=>exact⟨k,v,rfl,rfl,(aF h).symm⟩
  | _=>cases h
 | _=>cases h
section
variable {X:Cx}{k v k2 v2:Expr}{pos:Pos}
theorem FX {gk gv:DE->g6 Dt}(hk:PD X k gk)(hv:PD X v gv):PD X (.Dict [kb k] [v] pos) (FW gk gv) :=
 (E7 (Bp hk hv E6) rfl rfl (by simp) (by simp)).of λ σ H Q hz=>by obtain⟨δ,d,S,e,q⟩:=hz;obtain⟨x,e1,e⟩:=hZ e;obtain⟨y,e2,e⟩:=hZ e;obtain⟨a,b,rfl,rfl,rfl⟩:=Kd e;intro p hp;have s0:iA H (upd H p (.dK [])):=iA.upd hp;refine⟨δ,_,S.ext s0,e1,λ u H1 s1 i1=>⟨δ,_,(S.ext s0).ext s1,e2,λ u2 H2 s2 i2=>?_⟩⟩;rw[i1.int_inv,i2.int_inv];refine⟨s2 _ _ (s1 _ _ ir),[(Sum.inl a,.int b)],rfl,by simp,q _ _ ?_ (.dct (.inl ir))⟩;exact λ c o h=>by have cp:c≠p:=iU h hp;rw[iI cp];exact s2 _ _ (s1 _ _ (s0 _ _ h))
end
def bt (x:Rat)(e:Nat):Prop:=x.num.natAbs<2 ^ e/\x.den<2 ^ e
theorem Oq {a b:Int}(h:0<b):(V4 a b).num.natAbs<=a.natAbs/\(V4 a b).den<=b.natAbs:=by
 obtain⟨d1,d2⟩:=oQ (a:=a) h;obtain⟨g1,g2⟩:=Ai (a:=a) h;constructor
 ·rw[d1];exact f_ _ _
 ·have:((V4 a b).den:Int)<=b:=by rw[d2];exact Int.ediv_le_self _ (by lia)
  lia
theorem MJ {x:Rat}{e f:Nat}(h:bt x e)(l:e<=f):bt x f:=⟨aB h.1 (dS (by decide) l),aB h.2 (dS (by decide) l)⟩
theorem Ke {x:Rat}{e:Nat}(h:bt x e)(l:e<=1900):sm x:=MJ h l
theorem QD (x y:Rat):0<(x.den:Int)*y.den:=Int.mul_pos (by have:=x.den_pos;lia) (by have:=y.den_pos;lia)
theorem QE {x y:Rat}{e f:Nat}(h:bt x e)(h':bt y f):bt (x+y) (e+f+1):=by
 obtain⟨d1,d2⟩:=Oq (a:=x.num*y.den+y.num*x.den) (QD x y);rw[DQ]at d1 d2;have p1:x.num.natAbs*y.den<2 ^ e*2 ^ f:=gF h.1 h'.2;have p2:y.num.natAbs*x.den<2 ^ f*2 ^ e:=gF h'.1 h.2;have p3:x.den*y.den<2 ^ e*2 ^ f:=gF h.2 h'.2;have e1:2 ^ (e+f+1)=2*(2 ^ e*2 ^ f):=by rw[Nat.pow_succ,Nat.pow_add];lia
 have e2:2 ^ f*2 ^ e=2 ^ e*2 ^ f:=Nat.mul_comm _ _;rw[e2]at p2;have a1:(x.num*y.den+y.num*x.den).natAbs<=x.num.natAbs*y.den+y.num.natAbs*x.den:=by refine bg (Int.natAbs_add_le _ _) ?_;rw[f7,f7,eZ,eZ];exact aq _
 have a2:((x.den:Int)*y.den).natAbs=x.den*y.den:=by rw[f7,eZ,eZ]
 rw[a2]at d2;unfold bt;rw[e1];generalize 2 ^ e*2 ^ f=M at *;constructor<;>lia
def meL (w:Web)(b:Nat):List Rat:=(V2 w.1).map (meQ w b)
def ahL (w:Web)(a b:Nat):List Rat:=(V2 w.1).map (ahQ w a b)
def nE:List Dt->g6 Dt:=yz λ x y=>(dW x).bind λ w=>(ja y).bind λ b=>if b<w.1 then kb (.tup ((meL w b).map iF)) else My
def QF:List Dt->g6 Dt
 | [x,y,z]=>(dW x).bind λ w=>(ja y).bind λ b=>(dQt z).bind λ l=>if b<w.1/\l.length=w.1 then kb (.bl (decide (l=meL w b))) else My
 | _=>My
def nF:List Dt->g6 Dt:=yz λ x y=>(ja x).bind λ a=>(ja y).bind λ b=>if a≠b then kb .non else My
def jU:List Dt->g6 Dt
 | [x,y,z]=>(dW x).bind λ w=>(ja y).bind λ a=>(ja z).bind λ b=>if a<w.1/\b<w.1/\a≠b then kb .non else My
 | _=>My
def vE:List Dt->g6 Dt
 | [x,y,z]=>(dW x).bind λ w=>(ja y).bind λ a=>(ja z).bind λ b=>if a<w.1/\b<w.1/\a≠b then kb (.tup ((ahL w a b).map iF)) else My
 | _=>My
def AG:DE->g6 RD:=(i_ (lL (ib 1 jF (hU (hW 0) hX))) (i_ (lL (ib 2 jG (hU (hW 0) (hU (hW 1) hX)))) (jk (ib 3 kA (hU (hW 0) (hU (FW (hW 1) (gC (.int 0))) (hU (ib 1 qI (hU (hW 0) hX)) hX)))))))
abbrev MK:List Str:=["web","goal"]
def qf:DE->g6 RD:=(lJ (gB (iG kX (hW 0) (hW 1))) mM j5)
abbrev Ct:List Str:=["a","b"]
def oY:DE->g6 RD:=(i_ (lL (ib 1 jF (hU (hW 0) hX))) (i_ (lL (ib 2 jG (hU (hW 0) (hU (hW 1) hX)))) (i_ (lL (ib 2 jG (hU (hW 0) (hU (hW 2) hX)))) (lL (ib 2 nF (hU (hW 1) (hU (hW 2) hX)))))))
abbrev AH:List Str:=["web","a","b"]
def HF:DE->g6 RD:=(jk (ib 3 kA (hU (hW 0) (hU (Oo (hW 1) (gC (.int 1)) (hW 2) (gC (.int 0))) (hU (iG Jf (zh (hU (gC (.int 0)) hX)) (iG dIx (hW 0) (gC (.int 0)))) hX)))))
theorem vc (b:Nat):gvD [((b:Int),0)]=gvM b:=by
 funext i;unfold gvD gvM ou;by_cases c:i=b
 ·subst c;simp
 ·have:¬ ((b:Int)=(i:Int)):=by lia
  simp[this,c]
theorem Good.QG {w:Web}(g:Good w){i:Nat}(h:w.1<=i):dg w i=0:=by
 unfold dg;cases e:nb w.2 i with
 | nil=>rfl
 | cons x r =>have:=g.jr (p:=i) (j:=x) (by rw[e];exact av);lia
theorem Good.FY {w:Web}(g:Good w):adD ((qX w).map λ(k:Nat)=>(k:Int))=λ i=>(dg w i:Int):=by
 funext i;unfold adD;rw[aA,aD];by_cases h:i<w.1
 ·unfold qX;rw[aD,bx h];rfl
 ·have:(qX w)[i]?=My:=bu (by rw[B4];lia);rw[this,g.QG (by lia)];rfl
theorem Good.SE {w:Web}(g:Good w):qI [ip w]=kb (.lst (((qX w).map λ(k:Nat)=>(k:Int)).map .int)):=by show(dW (ip w)).map (λ w=>Dt.lst ((qX w).map h_))=_;rw[j7 g,cq,aR];rfl
theorem Good.AI {w:Web}(g:Good w){b:Nat}(hb:b<w.1):xI w [((b:Int),0)] ((qX w).map λ(k:Nat)=>(k:Int)):=by
 refine⟨by rw[ak,B4],by rw[vc];exact nD hb,λ i v h=>?_,λ a ha=>?_⟩
 ·rw[vc]at h
  unfold gvM at h;by_cases c:i=b
  ·rw[ae c]at h;cases h;decide
  ·rw[ag c]at h;cases h
 ·obtain⟨k,hk,rfl⟩:=aE.mp ha;obtain⟨p,_,rfl⟩:=aE.mp hk;have:=g.Cr p;unfold dg at this;lia
theorem Good.Cu {w:Web}(g:Good w){b:Nat}(hb:b<w.1)(i:Nat):bt (meQ w b i) 200:=by have:=(g.AF (gv:=gvD [((b:Int),0)]) (ad:=adD ((qX w).map λ(k:Nat)=>(k:Int))) (g.AI hb).has (g.AI hb).vs (uB (g.AI hb).ads)).2.2 i;rw[vc,g.FY]at this;exact this
theorem QH {w:Web}(g:Good w){b:Nat}(hb:b<w.1):nE [ip w,h_ b]=kb (.tup ((meL w b).map iF)):=by show(dW (ip w)).bind (λ w=>(ja (h_ b)).bind λ b=>if b<w.1 then kb (Dt.tup ((meL w b).map iF)) else My)=_;rw[j7 g,iY,af,af,ae hb]
theorem Kf:Hg 2 MK nE AG:=by
 intro ds d hl h;obtain⟨x,y,rfl,h⟩:=sL (show yz _ ds=_ from h);obtain⟨w,e1,h⟩:=hZ h;obtain⟨b,e3,h⟩:=hZ h;by_cases hb:b<w.1
 ·rw[ae hb]at h
  cases h;obtain⟨rfl,g⟩:=kf e1;rw[jd e3];refine⟨.rt (.tup ((meL w b).map iF)),?_,rfl⟩;have c1:=Fx e1;have c2:=uq e1 hb;have bo:=Kb g (g.AI hb);rw[vc,g.FY]at bo;have er:(V2 w.1).map (λ i=>iF (sol w (gvM b) (λ i=>(dg w i:Int)) i))=(meL w b).map iF:=by unfold meL;rw[aR];rfl
  rw[er]at bo;have fd:=g.SE;have pr:Kc (h_ b) (.int 0)=kb (.dct [((b:Int),0)]):=rfl;generalize h_ b=nb,ip w=ww,Dt.dct [((b:Int),0)]=kk,((qX w).map λ(k:Nat)=>(k:Int)).map Dt.int=dd,(meL w b).map iF=res at *;simp[AG,c1,c2,fd,pr,bo]
 ·rw[ag hb]at h;cases h
theorem ML (w:Web)(b:Nat):(meL w b).length=w.1:=by simp[meL]
theorem AJ:Hg 2 Ct nF qf:=by
 intro ds d hl h;obtain⟨x,y,rfl,h⟩:=sL (show yz _ ds=_ from h);obtain⟨a,e1,h⟩:=hZ h;obtain⟨b,e2,h⟩:=hZ h;rw[jd e1,jd e2];by_cases hc:a≠b
 ·rw[ae hc]at h
  cases h;have:kX (h_ a) (h_ b)=kb (.bl V1):=by
   show kb (Dt.bl ((a:Int)==(b:Int)))=_;have:((a:Int)==(b:Int))=V1:=by simp;lia
   rw[this]
  generalize h_ b=nb,h_ a=na at *;refine⟨.nx [kb na,kb nb],?_,rfl⟩;simp[qf,this]
 ·rw[ag hc]at h;cases h
theorem MN {a b:Nat}(h:a≠b):nF [h_ a,h_ b]=kb .non:=by show(ja (h_ a)).bind (λ a=>(ja (h_ b)).bind λ b=>if a≠b then kb Dt.non else My)=_;rw[iY,iY,af,af,ae h]
theorem yG:Hg 3 AH jU oY:=by
 intro ds d hl h;match ds,h with
 | [x,y,z],h =>
  obtain⟨w,e1,h⟩:=hZ (show(dW x).bind _=_ from h);obtain⟨a,e2,h⟩:=hZ h;obtain⟨b,e3,h⟩:=hZ h;by_cases hc:a<w.1/\b<w.1/\a≠b
  ·rw[ae hc]at h;cases h;obtain⟨rfl,g⟩:=kf e1;rw[jd e2,jd e3];have c1:=Fx e1;have c2:=uq e1 hc.1;have c3:=uq e1 hc.2.1;have c4:=MN hc.2.2;generalize h_ b=nb,h_ a=na,ip w=ww at *;refine⟨.nx [kb ww,kb na,kb nb],?_,rfl⟩;simp[oY,c1,c2,c3,c4]
  ·rw[ag hc]at h;cases h
theorem Kg {w:Web}{b i:Nat}(hi:i<w.1):dIx (.tup ((meL w b).map iF)) (h_ i)=kb (iF (meQ w b i)):=by
 have:=getD_at (l:=meL w b) (j:=i) (by rw[ML];exact hi);have e:(meL w b).getD i 0=meQ w b i:=by unfold meL;rw[aA,aD,bx hi];rfl
 rw[e]at this;exact this
def Cv (i j k:Nat):Dt->DE->g6 DE:=λ d δ=>match d with
 | .tup [.tup [x,y],z]=>kb (((δ.set i (kb x)).set j (kb y)).set k (kb z))
 | _=>My
@[simp] theorem T7 {δ:DE} (i j k:Nat) (x y z:Dt):Cv i j k (.tup [.tup [x,y],z]) δ=kb (((δ.set i (kb x)).set j (kb y)).set k (kb z)):=rfl
theorem SF {K:g9}{i j k:Nat}:GD K (Bf K 2 (nu (Bf K 2 (nu (je i) (nu (je j) Bd))) (nu (je k) Bd))) (Cv i j k):=λ H x d σ δ δ' Q h S e q=>by
 unfold Cv at e;split at e
 ·cases e
  obtain⟨a,xs,rfl,hq,is⟩:=h.iR;cases is with
  | cons i1 is =>
   cases is with
   | cons i2 is =>
    cases is;obtain⟨b,ys,rfl,hq2,js⟩:=i1.iR;cases js with
    | cons j1 js =>
     cases js with
     | cons j2 js =>cases js;exact⟨a,_,rfl,hq,rfl,_,_,rfl,b,_,rfl,hq2,rfl,_,_,rfl,_,_,rfl,rfl,_,_,rfl,rfl,q _ (((S.set j1).set j2).set i2)⟩
 ·cases e
def cb (x:Rat)(D N:Nat):Prop:=∃ n:Int,x=(n:Rat)*((D:Rat))⁻¹/\n.natAbs<=N
theorem SG {x:Rat}{D N:Nat}(h:cb x D N)(h0:0<D)(hD:D<2 ^ 1900)(hN:N<2 ^ 1900):sm x:=by
 obtain⟨n,e,hn⟩:=h;have e2:x=V4 n D:=by rw[e,gA,gX,df]
 obtain⟨d1,d2⟩:=Oq (a:=n) (b:=(D:Int)) (by lia);rw[e2];exact⟨by lia,by lia⟩
def nG:List Dt->g6 Dt
 | [x,y]=>(dQ x).bind λ a=>(dQ y).bind λ b=>if sm a/\sm b then kb (iF (a-b)) else My
 | _=>My
def AK:DE->g6 RD:=(jk (ib 2 jX (hU (iG (dI (·-·)) (iG pL (iG dIx (hW 0) (gC (.int 0))) (iG dIx (hW 1) (gC (.int 1)))) (iG pL (iG dIx (hW 1) (gC (.int 0))) (iG dIx (hW 0) (gC (.int 1))))) (hU (iG pL (iG dIx (hW 0) (gC (.int 1))) (iG dIx (hW 1) (gC (.int 1)))) hX))))
abbrev MO:List Str:=["one","other"]
theorem Ed (a b:Rat):V4 (a.num*b.den-b.num*a.den) ((a.den:Int)*b.den)=a-b:=by have h:=Rat.divInt_sub_divInt a.num b.num (d₁:=a.den) (d₂:=b.den) (by have:=a.den_pos;lia) (by have:=b.den_pos;lia);rw[<-h,dq,dq,fi,fi]
theorem Cw:Hg 2 MO nG AK:=by
 intro ds d hl h;match ds,h with
 | [x,y],h =>obtain⟨a,b,rfl,rfl,ha,hb,rfl⟩:=R5 (f:=(·-·)) h;have h1:0<((a.den:Int)*b.den):=Int.mul_pos (by have:=a.den_pos;lia) (by have:=b.den_pos;lia);have h2:bd ((a.den:Int)*b.den):=PZ (by simpa using ha.2) (by simpa using hb.2);have a1:=pH ha.1;have b1:=pH hb.1;have a2:bd (a.den:Int):=pH (by simpa using ha.2);have b2:bd (b.den:Int):=pH (by simpa using hb.2);refine⟨.rt (iF (a-b)),?_,rfl⟩;rw[<-Ed];simp only[AK,iF,jk,ib,hU,iG,hW,gC,hX,oP,au,eE,aW,cP,fH,cC,bG,gG,af,dIx,P2,P4,dIC,dI,a1,b1,a2,b2,and_self,cJ,cq,uj,h1,h2]
theorem Kh {x y:Rat}(hx:sm x)(hy:sm y):nG [iF x,iF y]=kb (iF (x-y)):=by show(dQ (iF x)).bind (λ a=>(dQ (iF y)).bind λ b=>if sm a/\sm b then kb (iF (a-b)) else My)=_;rw[rE,rE,af,af,ae ⟨hx,hy⟩]
theorem Good.QI {w:Web}(g:Good w){gv:Nat->g6 Int}{ad:Nat->Int}(hg:∃ p,p<w.1/\gv p≠My)(hv:∀ i v,gv i=kb v->v.natAbs<=1000)(ha:∀ i,(ad i).natAbs<=1000) :
  ∃ D:Nat,0<D/\D<2 ^ 200/\∀ i,cb (sol w gv ad i) D (2 ^ 200):=by
 have mm:=g.mm (ad:=ad) hg;have ab:=λ k (hk:k<=w.1) i j=>Dt0.Ob g.kg mm.ne (g.zy hv ha) hk i j;have pos:0<Dt0.fm (eqA w gv ad) w.1:=by have h1:=mm.DZ w.1 (aq _);rw[<-(Dt0.zr mm.ne w.1 (aq _)).2.1]at h1;exact Rat.intCast_pos.mp h1
 obtain⟨so,eq,_⟩:=g.AF hg hv ha;refine⟨(Dt0.fm (eqA w gv ad) w.1).natAbs,by lia,(ab w.1 (aq _) 0 0).2,λ i=>⟨Dt0.Tz (eqA w gv ad) w.1 i w.1,?_,d8 (ab w.1 (aq _) i w.1).1⟩⟩;rw[<-eq i,gA,gX];have e:((Dt0.fm (eqA w gv ad) w.1:Int):Rat)=(((Dt0.fm (eqA w gv ad) w.1).natAbs:Nat):Rat):=by rw[<-df];congr 1;lia
 rw[e]
def CbL (l:List Rat):Prop:=∃ D N:Nat,0<D/\D*D<2 ^ 1900/\0<N/\1000*(N*N)<2 ^ 1900/\∀ x∈l,cb x D N
structure MP (w:Web)(a b:Nat)(l:List Rat):Prop where
 len:l.length=w.2.length
 cbl:CbL l
 str:∀ p,p<w.1->p≠b->dvg (w.2.zip l) p=if p=a then 1 else 0
structure QJ (w:Web)(a b:Nat)(l:List Rat):Prop where
 len:l.length=w.1
 cbl:CbL l
 la:l.getD a 0=1
 lb:l.getD b 0=0
def sqL (l:List Rat):Rat:=(l.map λ x=>x*x).sum
def flL (w:Web)(l:List Rat):List Rat:=w.2.map λ t=>l.getD t.1 0-l.getD t.2 0
def htL (w:Web)(a b:Nat):List Rat:=(V2 w.1).map (htQ w a b)
def evL (w:Web)(a b:Nat):List Rat:=w.2.map λ t=>htQ w a b t.1-htQ w a b t.2
open Classical in
def AL:List Dt->g6 Dt
 | [x,y,z]=>(dW x).bind λ w=>(dQt y).bind λ l=>(ja z).bind λ p=>if l.length=w.2.length/\CbL l then kb (iF (dvg (w.2.zip l) p)) else My
 | _=>My
open Classical in
def qg:List Dt->g6 Dt
 | [x,y,z,u]=>(dW x).bind λ w=>(ja y).bind λ a=>(ja z).bind λ b=>(dQt u).bind λ l=>if a<w.1/\b<w.1/\a≠b/\MP w a b l then kb (.bl V0) else My
 | _=>My
open Classical in
def Ee:List Dt->g6 Dt
 | [x,y,z,u]=>(dW x).bind λ w=>(ja y).bind λ a=>(ja z).bind λ b=>(dQt u).bind λ l=>if a<w.1/\b<w.1/\a≠b/\MP w a b l then kb (iF (sqL l)) else My
 | _=>My
def mG:List Dt->g6 Dt
 | [x,y,z]=>(dW x).bind λ w=>(ja y).bind λ a=>(ja z).bind λ b=>if a<w.1/\b<w.1/\a≠b then kb (.tup ((htL w a b).map iF)) else My
 | _=>My
def Ki:List Dt->g6 Dt
 | [x,y,z]=>(dW x).bind λ w=>(ja y).bind λ a=>(ja z).bind λ b=>if a<w.1/\b<w.1/\a≠b then kb (.tup ((evL w a b).map iF)) else My
 | _=>My
def j_:List Dt->g6 Dt
 | [x,y,z]=>(dW x).bind λ w=>(ja y).bind λ a=>(ja z).bind λ b=>if a<w.1/\b<w.1/\a≠b then kb (iF (hiQ w a b)) else My
 | _=>My
def MQ:DE->g6 RD:=(i_ (jW 3 (gLC ["lesser","greater","much"] [2] (GP V0 V0 (hU (iG dIx (hW 0) (gC (.int 1))) (hU (hW 1) hX))) (Cv 0 1 2) (gB (iG kX (hW 0) (hW 3))) (hW 2))) (i_ (jW 4 (gLC ["lesser","greater","much"] [2] (GP V0 V0 (hU (iG dIx (hW 0) (gC (.int 1))) (hU (hW 1) hX))) (Cv 0 1 2) (gB (iG kX (hW 1) (hW 3))) (hW 2))) (jk (ib 2 nG (hU (ib 1 vQ (hU (hW 3) hX)) (hU (ib 1 vQ (hU (hW 4) hX)) hX))))))
def Ot:DE->g6 RD:=(i_ (lL (ib 3 jU (hU (hW 0) (hU (hW 1) (hU (hW 2) hX))))) (i_ (sH (kW 4 5) (hW 0)) (i_ (lJ (kr (gTr (ib 2 pG (hU (hW 3) (hU (ju qV (hU (hW 5) hX)) hX))))) (jk (gC (.bl V1))) j5) (i_ (jW 6 (gLC ["place"] [0,3] (nA (hU (hW 4) hX)) (ggN 0) jL (ib 3 AL (hU (hW 1) (hU (hW 2) (hU (hW 0) hX)))))) (jk (ju Jl (hU (gLC ["place"] [6,1,2] (nA (hU (hW 4) hX)) (ggN 0) (gB (iG lK (hW 0) (hW 3))) (iG kX (iG dIx (hW 1) (hW 0)) (gIf (gB (iG kX (hW 0) (hW 2))) (gC R3) (gC NZ)))) hX)))))))
def Va:DE->g6 RD:=(i_ (lJ (kr (gTr (ib 4 qg (hU (hW 0) (hU (hW 1) (hU (hW 2) (hU (hW 3) hX))))))) mM j5) (jk (ib 1 vQ (hU (gLC ["much"] [] (gI kx (hW 3)) (ggN 0) jL (ib 2 Ah (hU (hW 0) (hU (hW 0) hX)))) hX))))
def uC:DE->g6 RD:=(i_ (lL (ib 3 jU (hU (hW 0) (hU (hW 1) (hU (hW 2) hX))))) (jk (ib 3 kA (hU (hW 0) (hU (FW (hW 2) (gC (.int 0))) (hU (gLC ["place"] [1] (nA (hU (iG dIx (hW 0) (gC (.int 0))) hX)) (ggN 0) jL (gIf (gB (iG kX (hW 0) (hW 1))) (gC (.int 1)) (gC (.int 0)))) hX))))))
abbrev G5:List Str:=["web","a","b"]
def Vb:DE->g6 RD:=(i_ (jW 3 (ib 3 mG (hU (hW 0) (hU (hW 1) (hU (hW 2) hX))))) (jk (ju lP (hU (gLC ["lesser","greater"] [3] (gI kx (iG dIx (hW 0) (gC (.int 1)))) (kW 0 1) jL (ib 2 nG (hU (iG dIx (hW 2) (hW 0)) (hU (iG dIx (hW 2) (hW 1)) hX)))) hX))))
def qh:DE->g6 RD:=(i_ (jW 3 (ib 3 mG (hU (hW 0) (hU (hW 1) (hU (hW 2) hX))))) (jk (iG dIx (hW 3) (hW 1))))
abbrev Cy:List Str:=["web","a","b","high"]
theorem Kj {w:Web}(g:Good w){a b:Nat}(ha:a<w.1)(hb:b<w.1)(ne:a≠b):jU [ip w,h_ a,h_ b]=kb .non:=by show(dW (ip w)).bind (λ w=>(ja (h_ a)).bind λ a=>(ja (h_ b)).bind λ b=>if a<w.1/\b<w.1/\a≠b then kb Dt.non else My)=_;rw[j7 g,iY,iY,af,af,af,ae ⟨ha,hb,ne⟩]
theorem QK (a b:Nat):kX (h_ a) (h_ b)=kb (.bl (a==b)):=by show kb (Dt.bl ((a:Int)==(b:Int)))=_;rw[mT]
theorem Ou (a n:Nat)(ha:a<n):adD ((V2 n).map λ p=>if p=a then (1:Int) else 0)=adH a:=by
 funext i;unfold adD adH;rw[aA,aD];by_cases h:i<n
 ·rw[bx h];rfl
 ·rw[bu (by simp;lia),ag (by lia)];rfl
theorem Kk {w:Web}{a b:Nat}(hb:b<w.1):xI w [((b:Int),0)] ((V2 w.1).map λ p=>if p=a then (1:Int) else 0):=by
 refine⟨by simp,by rw[vc];exact nD hb,λ i v h=>?_,λ x hx=>?_⟩
 ·rw[vc]at h
  unfold gvM at h;by_cases c:i=b
  ·rw[ae c]at h;cases h;decide
  ·rw[ag c]at h;cases h
 ·obtain⟨p,_,rfl⟩:=aE.mp hx
  by_cases c:p=a
  ·rw[ae c];decide
  ·rw[ag c];decide
theorem Ef:Hg 3 G5 mG uC:=by
 intro ds d hl h;match ds,h with
 | [x,y,z],h =>
  obtain⟨w,e1,h⟩:=hZ (show(dW x).bind _=_ from h);obtain⟨a,e2,h⟩:=hZ h;obtain⟨b,e3,h⟩:=hZ h;by_cases hc:a<w.1/\b<w.1/\a≠b
  ·rw[ae hc]at h
   cases h;obtain⟨rfl,g⟩:=kf e1;rw[jd e2,jd e3];refine⟨.rt (.tup ((htL w a b).map iF)),?_,rfl⟩;have h8:=g.kg;have c1:=Kj g hc.1 hc.2.1 hc.2.2;have bo:=Kb g (Kk (a:=a) hc.2.1);rw[vc,Ou a w.1 hc.1]at bo;have er:(V2 w.1).map (λ i=>iF (sol w (gvM b) (adH a) i))=(htL w a b).map iF:=by unfold htL;rw[aR];rfl
   rw[er]at bo;have hr:yu [h_ w.1]=kb ((V2 w.1).map h_):=ow (n:=w.1) (by lia);have ix:dIx (ip w) (.int 0)=kb (h_ w.1):=rfl;have lc:=kz (enc:=h_) (gg:=ggN 0) (ge:=gIf (gB (iG kX (hW 0) (hW 1))) (gC (.int 1)) (gC (.int 0))) (δc:=[My,kb (h_ a)]) (δa:=λ p=>[kb (h_ p),kb (h_ a)]) (enc':=λ p=>.int (if p=a then 1 else 0)) (V2 w.1) λ p _=>⟨rfl,by
    have q:=QK p a;generalize h_ a=na,h_ p=np at *;by_cases c:p=a
    ·have ck:(p==a)=V0:=by simpa using c
     rw[ck]at q;simp[q,c]
    ·have ck:(p==a)=V1:=by simpa using c
     rw[ck]at q;simp[q,c]⟩
   have el:(V2 w.1).map (λ p=>Dt.int (if p=a then 1 else 0))=((V2 w.1).map λ p=>if p=a then (1:Int) else 0).map .int:=by rw[aR];rfl
   rw[el]at lc;have pr:Kc (h_ b) (.int 0)=kb (.dct [((b:Int),0)]):=rfl;have hn:((V2 w.1).map h_).length<=1000:=by simp;lia
   generalize h_ b=nb,h_ a=na,h_ w.1=nw,ip w=ww,Dt.dct [((b:Int),0)]=kk,(V2 w.1).map h_=rs,(htL w a b).map iF=res,((V2 w.1).map λ p=>if p=a then (1:Int) else 0).map Dt.int=dd at *;simp[uC,c1,ix,hr,lc,hn,pr,bo]
  ·rw[ag hc]at h;cases h
section
variable {w:Web}(g:Good w)
include g
theorem Good.SH {a b:Nat}(ha:a<w.1)(hb:b<w.1):∃ D:Nat,0<D/\D<2 ^ 200/\∀ i,cb (htQ w a b i) D (2 ^ 200):=by have bo:=Kk (a:=a) hb;have:=g.QI (ad:=adD ((V2 w.1).map λ p=>if p=a then (1:Int) else 0)) bo.has bo.vs (uB bo.ads);rw[vc,Ou a w.1 ha]at this;exact this
end
theorem SI {w:Web}{a b i:Nat}(hi:i<w.1):dIx (.tup ((htL w a b).map iF)) (h_ i)=kb (iF (htQ w a b i)):=by
 have:=getD_at (l:=htL w a b) (j:=i) (by unfold htL;simp;exact hi);have e:(htL w a b).getD i 0=htQ w a b i:=by unfold htL;rw[aA,aD,bx hi];rfl
 rw[e]at this;exact this
theorem Vc {w:Web}(g:Good w){a b:Nat}(ha:a<w.1)(hb:b<w.1)(ne:a≠b):mG [ip w,h_ a,h_ b]=kb (.tup ((htL w a b).map iF)):=by show(dW (ip w)).bind (λ w=>(ja (h_ a)).bind λ a=>(ja (h_ b)).bind λ b=>if a<w.1/\b<w.1/\a≠b then kb (Dt.tup ((htL w a b).map iF)) else My)=_;rw[j7 g,iY,iY,af,af,af,ae ⟨ha,hb,ne⟩]
theorem Good.Ov {w:Web}(g:Good w){a b:Nat}(ha:a<w.1)(hb:b<w.1)(i:Nat):sm (htQ w a b i):=by obtain⟨D,h0,hD,h⟩:=g.SH ha hb;have p:(2:Nat) ^ 200<2 ^ 1900:=Nat.pow_lt_pow_right (by decide) (by decide);exact SG (h i) h0 (by lia) p
theorem AM:Hg 3 Cy j_ qh:=by
 intro ds d hl h;match ds,h with
 | [x,y,z],h =>
  obtain⟨w,e1,h⟩:=hZ (show(dW x).bind _=_ from h);obtain⟨a,e2,h⟩:=hZ h;obtain⟨b,e3,h⟩:=hZ h;by_cases hc:a<w.1/\b<w.1/\a≠b
  ·rw[ae hc]at h;cases h;obtain⟨rfl,g⟩:=kf e1;rw[jd e2,jd e3];refine⟨.rt (iF (hiQ w a b)),?_,rfl⟩;have c1:=Vc g hc.1 hc.2.1 hc.2.2;have ix:=SI (w:=w) (a:=a) (b:=b) hc.1;have ix:dIx (.tup ((htL w a b).map iF)) (h_ a)=kb (iF (hiQ w a b)):=ix;generalize h_ b=nb,h_ a=na,ip w=ww,iF (hiQ w a b)=res,(htL w a b).map iF=hh at *;simp[qh,c1,ix]
  ·rw[ag hc]at h;cases h
open Classical in
def Cz:List Dt->g6 Dt
 | [x,y,z,u]=>(dW x).bind λ w=>(ja y).bind λ a=>(ja z).bind λ b=>(dQt u).bind λ l=>if a<w.1/\b<w.1/\QJ w a b l then kb (.bl V0) else My
 | _=>My
open Classical in
def QL:List Dt->g6 Dt
 | [x,u]=>(dW x).bind λ w=>(dQt u).bind λ l=>if l.length=w.1/\CbL l then kb (iF (sqL (flL w l))) else My
 | _=>My
open Classical in
def xJ:List Dt->g6 Dt
 | [x,y,z,.tup [u,v]]=>(dW x).bind λ w=>(ja y).bind λ a=>(ja z).bind λ b=>(dQt u).bind λ l=>(dQt v).bind λ m=>if a<w.1/\b<w.1/\a≠b/\MP w a b l/\QJ w a b m then kb (.bl V0) else My
 | _=>My
open Classical in
def FZ:List Dt->g6 Dt
 | [x,y,z,.tup [u,v]]=>(dW x).bind λ w=>(ja y).bind λ a=>(ja z).bind λ b=>(dQt u).bind λ l=>(dQt v).bind λ m=>if a<w.1/\b<w.1/\a≠b/\MP w a b l/\QJ w a b m then kb (.tup [iF (sqL (flL w m))⁻¹,iF (sqL l)]) else My
 | _=>My
def CA:List Dt->g6 Dt
 | [x,y,z]=>(dW x).bind λ w=>(ja y).bind λ a=>(ja z).bind λ b=>if a<w.1/\b<w.1/\a≠b then kb (.tup [.tup ((evL w a b).map iF),.tup ((ahL w a b).map iF)]) else My
 | _=>My
def Ow:DE->g6 RD:=(jk (wV (ib 2 pG (hU (hW 3) (hU (iG dIx (hW 0) (gC (.int 0))) hX))) (wV (iG kX (iG dIx (hW 3) (hW 1)) (gC R3)) (iG kX (iG dIx (hW 3) (hW 2)) (gC NZ)))))
def Vd:DE->g6 RD:=(i_ (jW 2 (gLC ["lesser","greater"] [1] (gI kx (iG dIx (hW 0) (gC (.int 1)))) (kW 0 1) jL (ib 2 nG (hU (iG dIx (hW 2) (hW 0)) (hU (iG dIx (hW 2) (hW 1)) hX))))) (jk (ib 1 vQ (hU (gLC ["fall"] [] (gI kx (hW 2)) (ggN 0) jL (ib 2 Ah (hU (hW 0) (hU (hW 0) hX)))) hX))))
def QM:DE->g6 RD:=(i_ (lL (ib 3 jU (hU (hW 0) (hU (hW 1) (hU (hW 2) hX))))) (i_ (lJ (pU (kr (gTr (ju yA (hU (hW 3) (hU (gC (.ty "tuple")) hX))))) (gB (iG lK (ju qV (hU (hW 3) hX)) (gC (.int 2))))) (jk (gC (.bl V1))) j5) (i_ (sH (kW 4 5) (hW 3)) (jk (wV (ib 4 qg (hU (hW 0) (hU (hW 1) (hU (hW 2) (hU (hW 4) hX))))) (ib 4 Cz (hU (hW 0) (hU (hW 1) (hU (hW 2) (hU (hW 5) hX))))))))))
def T8:DE->g6 RD:=(i_ (lJ (kr (gTr (ib 4 xJ (hU (hW 0) (hU (hW 1) (hU (hW 2) (hU (hW 3) hX))))))) mM j5) (i_ (sH (kW 4 5) (hW 3)) (i_ (sH (kW 6 7) (ib 2 QL (hU (hW 0) (hU (hW 5) hX)))) (jk (jE (hU (jE (hU (hW 7) (hU (hW 6) hX))) (hU (ib 4 Ee (hU (hW 0) (hU (hW 1) (hU (hW 2) (hU (hW 4) hX))))) hX)))))))
def Ox:DE->g6 RD:=(i_ (jW 3 (ib 3 Ki (hU (hW 0) (hU (hW 1) (hU (hW 2) hX))))) (jk (jE (hU (hW 3) (hU (ib 3 vE (hU (hW 0) (hU (hW 1) (hU (hW 2) hX)))) hX)))))
section
variable {w:Web}(g:Good w){a b:Nat}
include g
end
def jb (w:Web)(t:Nat×Nat):Web:=(w.1,mW (w.2++[t]))
def km (w:Web)(t:Nat×Nat):hG:=w.2.filter λ s=>s != t
def QN:hG:=(V2 8).flatMap λ a=>((V2 8).filter λ b=>decide (a<b)).map λ b=>(a,b)
theorem pairs_len {l:hG}{n:Nat}(nd:l.Nodup)(ok:∀ p∈l,p.1<p.2/\p.2<n)(h8:n<=8):l.length<=28:=by
 have:=aP nd (l₂:=QN) λ p hp=>by have:=ok p hp;unfold QN;rw[gH];exact⟨p.1,ay.mpr (by lia),aE.mpr ⟨p.2,aT.mpr ⟨ay.mpr (by lia),by simp;lia⟩,rfl⟩⟩
 have e:QN.length=28:=by decide
 lia
theorem QO {a b:Nat×Nat}(h:leP a b=V0)(ne:a≠b):mS a b=V0:=by
 rw[qK]at h;rw[mV];rcases h with h | ⟨h1,h2⟩
 ·exact .inl h
 ·refine .inr ⟨h1,?_⟩;have:a.2≠b.2:=λ e=>ne (gT h1 e);lia
theorem G6 {a b:Nat×Nat}(h:mS a b=V0):leP a b=V0:=by rw[mV]at h;rw[qK];lia
def MR (l:hG)(n:Nat):Prop:=∀ S:Nat->Prop,S 0->(∀ p∈l,S p.1↔S p.2)->∀ v,v<n->S v
theorem tH {l:hG}{n:Nat}(ok:∀ p∈l,p.1<p.2/\p.2<n)(h0:0<n):(bfs l 0).length=n↔MR l n:=by
 refine⟨λ h S s0 cl v hv=>?_,FC ok h0⟩;have f:=kG l 0;have nbS:∀ (T:Nat->Prop),(∀ p∈l,T p.1↔T p.2)->∀ u v,v∈nb l u->T u->T v:=λ T ct u v h t=>by
  rcases mU.mp h with z | z
  ·exact(ct _ z).mpr t
  ·exact(ct _ z).mp t
 have sub:∀ k∈keys (bfs l 0),k∈V2 n:=λ k hk=>by obtain⟨q,hq,rfl⟩:=aE.mp hk;rw[ay];exact f.sub (λ v=>v<n) h0 (nbS _ λ p hp=>by have:=ok p hp;constructor<;>(intro _;lia)) q.2 q.1 hq
 have len:(keys (bfs l 0)).length=n:=by rw[keys,ak];exact h
 have hk:v∈keys (bfs l 0):=aJ λ hn=>by
  have:(v::keys (bfs l 0)).Nodup:=bq.mpr ⟨hn,f.nd⟩;have:=aP this (l₂:=V2 n) (λ k hk=>by
   rcases aG.mp hk with rfl | hk
   ·exact ay.mpr hv
   ·exact sub k hk)
  simp[len]at this;lia
 obtain⟨q,hq,rfl⟩:=aE.mp hk;exact f.sub S s0 (nbS S cl) q.2 q.1 hq
section
variable {w:Web}(g:Good w)
include g
theorem Good.MS:MR w.2 w.1:=(tH g.ok (by have:=g.two;lia)).mp g.all
theorem Good.sorted:w.2.Pairwise λ a b=>leP a b=V0:=(mv g.rise).imp G6
theorem Good.add {t:Nat×Nat}(h1:t.1<t.2)(h2:t.2<w.1)(hn:t∉w.2):Good (jb w t):=by
 have nd:(w.2++[t]).Nodup:=List.nodup_append.mpr ⟨g.nd,by simp,λ a ha b hb e=>by rw[aN.mp hb]at e;exact hn (e▸ha)⟩;have nd2:(mW (w.2++[t])).Nodup:=(lh _).nodup_iff.mpr nd;have ok:∀ p∈mW (w.2++[t]),p.1<p.2/\p.2<w.1:=λ p hp=>by
  rcases bh.mp ((lh _).mem_iff.mp hp) with z | z
  ·exact g.ok p z
  ·rw[aN.mp z];exact⟨h1,h2⟩
 have pw:(mW (w.2++[t])).Pairwise λ a b=>mS a b=V0:=by rw[aV]at nd2;exact((An _).and nd2).imp λ⟨h1,h2⟩=>QO h1 h2
 have len:=pairs_len nd2 ok g.kg;refine⟨g.two,g.kg,ok,vT pw,(tH ok (by have:=g.two;show 0<w.1;lia)).mpr λ S s0 cl v hv=>g.MS S s0 (λ p hp=>cl p ((lh _).mem_iff.mpr (aM _ hp))) v hv,by show(mW (w.2++[t])).length<=30;lia,λ z=>?_⟩;have:t∈mW (w.2++[t]):=(lh _).mem_iff.mpr (ao _ (aN.mpr rfl));have z:mW (w.2++[t])=[]:=z;rw[z]at this;cases this
theorem Good.MT {t:Nat×Nat}(hn:t∉w.2):km (jb w t) t=w.2:=by
 have e1:km (jb w t) t=mW w.2:=by
  refine uu ?_ ((An _).filter _);have:(km (jb w t) t).Perm ((w.2++[t]).filter λ s=>s != t):=(lh (w.2++[t])).filter _;refine this.trans ?_;rw[List.filter_append];have f1:w.2.filter (λ s=>s != t)=w.2:=List.filter_eq_self.mpr λ s hs=>by have:s≠t:=λ e=>hn (e▸hs);simp[this]
  rw[f1];simp
 rw[e1];exact(uu (.refl _) g.sorted).symm
end
theorem MU (x y:Rat)(s r:Nat×Nat->Rat)(p:Nat):∀ (l:hG),dvg (l.map λ t=>(t,x*s t+y*r t)) p=x*dvg (l.map λ t=>(t,s t)) p+y*dvg (l.map λ t=>(t,r t)) p
 | []=>by show(0:Rat)-0=x*(0-0)+y*(0-0);grind
 | t::l=>by
  rw[au,au,au,m6,m6,m6,MU x y s r p l];by_cases c:p=t.1
  ·simp only[c,cJ]
   by_cases d:t.1=t.2
   ·simp only[d,cJ];grind
   ·simp only[d,bP];grind
  ·simp only[c,bP]
   by_cases d:p=t.2
   ·simp only[d,cJ];grind
   ·simp only[d,bP];grind
theorem CB (p:Nat):∀ (l:hG),dvg (l.map λ t=>(t,(0:Rat))) p=0
 | []=>by show(0:Rat)-0=0;grind
 | t::l=>by
  rw[au,m6,CB p l];have e1:(if p=t.1 then (0:Rat) else 0)=0:=by split<;>rfl
  have e2:(if p=t.2 then (0:Rat) else 0)=0:=by split<;>rfl
  simp only[e1,e2];grind
theorem F0 (t0:Nat×Nat)(x:Rat)(p:Nat):∀ (l:hG),l.Nodup->t0∈l->dvg (l.map λ t=>(t,if t=t0 then x else 0)) p=(if p=t0.1 then x else 0)+-1*(if p=t0.2 then x else 0)
 | t::l,nd,h=>by
  obtain⟨h1,h2⟩:=bq.mp nd;rw[au,m6];by_cases c:t=t0
  ·subst c
   have e:l.map (λ u=>(u,if u=t then x else 0))=l.map λ u=>(u,(0:Rat)):=aL λ u hu=>by have ne:u≠t:=λ z=>h1 (z▸hu);rw[ag ne]
   rw[e,CB];simp only[cJ];grind
  ·have ht:t0∈l:=by
    rcases aG.mp h with z | z
    ·exact absurd z.symm c
    ·exact z
   rw[F0 t0 x p l h2 ht];simp only[ag c];have e1:(if p=t.1 then (0:Rat) else 0)=0:=by split<;>rfl
   have e2:(if p=t.2 then (0:Rat) else 0)=0:=by split<;>rfl
   simp only[e1,e2];grind
section
variable {w:Web}(g:Good w)
include g
end
theorem Kl {l l':List ((Nat×Nat)×Rat)}(h:l.Perm l')(p:Nat):dvg l p=dvg l' p:=by unfold dvg;rw[vX ((h.filter _).map _),vX ((h.filter _).map _)]
theorem AN {t:Nat×Nat}{x:Rat}:∀ {l:hG},l.Nodup->t∈l->(l.map λ s=>if s=t then x else 0).sum=x
 | s::l,nd,h=>by
  obtain⟨h1,h2⟩:=bq.mp nd;rw[au,aI];by_cases c:s=t
  ·subst c
   have e:l.map (λ u=>if u=s then x else 0)=l.map λ _=>(0:Rat):=aL λ u hu=>by have ne:u≠s:=λ z=>h1 (z▸hu);rw[ag ne]
   have z:∀ (l:hG),(l.map λ _=>(0:Rat)).sum=0:=λ l=>by
    induction l with
    | nil=>rfl
    | cons a r ih=>rw[au,aI,ih];grind
   rw[ae rfl,e,z];grind
  ·have ht:t∈l:=by
    rcases aG.mp h with z | z
    ·exact absurd z.symm c
    ·exact z
   rw[ag c,AN h2 ht];grind
section
variable {w:Web}(g:Good w)
include g
theorem Good.QP {t:Nat×Nat}(h1:t.1<t.2)(h2:t.2<w.1)(hn:t∉w.2){a b:Nat}(ha:a<w.1)(hb:b<w.1)(ne:a≠b):hiQ (jb w t) a b<=hiQ w a b:=by
 have g':=g.add h1 h2 hn;let F:Nat×Nat->Rat:=λ s=>if s=t then 0 else htQ w a b s.1-htQ w a b s.2
 have pm:(jb w t).2.Perm (t::w.2):=(lh _).trans (List.perm_append_comm (l₁:=w.2) (l₂:=[t]));have Ft:F t=0:=ae rfl;have eF:w.2.map (λ s=>(s,F s))=evZ w (htQ w a b):=aL λ s hs=>by have ne:s≠t:=λ e=>hn (e▸hs);show(s,if s=t then (0:Rat) else _)=_;rw[ag ne]
 have c:=g'.Cn (a:=a) (b:=b) ha hb ne (zs:=(jb w t).2.map λ s=>(s,F s)) (by rw[aR];exact fM _) λ p hp=>by
  rw[Kl (pm.map λ s=>(s,F s)),au,m6,eF,g.Ax ha hb ne p hp];simp only[Ft];have e1:(if p=t.1 then (0:Rat) else 0)=0:=by split<;>rfl
  have e2:(if p=t.2 then (0:Rat) else 0)=0:=by split<;>rfl
  rw[e1,e2];grind
 have nn:=uy (λ z:(Nat×Nat)×Rat=>z.2-(htQ (jb w t) a b z.1.1-htQ (jb w t) a b z.1.2)) ((jb w t).2.map λ s=>(s,F s));have e3:(((jb w t).2.map λ s=>(s,F s)).map λ z=>z.2*z.2).sum=hiQ w a b:=by
  rw[aR,vX (pm.map _),au,aI];show F t*F t+(w.2.map λ s=>F s*F s).sum=_;rw[Ft,<-g.oz ha hb ne];have:w.2.map (λ s=>F s*F s)=w.2.map λ t=>(htQ w a b t.1-htQ w a b t.2)*(htQ w a b t.1-htQ w a b t.2):=aL λ s hs=>by have ne:s≠t:=λ e=>hn (e▸hs);show(if s=t then (0:Rat) else _)*(if s=t then (0:Rat) else _)=_;rw[ag ne]
  rw[this];grind
 rw[e3]at c;grind
theorem Good.Km {t:Nat×Nat}(ht:t∈w.2):hiQ w t.1 t.2<=1/\(hiQ w t.1 t.2=1->∀ s∈w.2,htQ w t.1 t.2 s.1-htQ w t.1 t.2 s.2=if s=t then 1 else 0):=by
 obtain⟨l1,l2⟩:=g.ok t ht;have c:=g.Cn (a:=t.1) (b:=t.2) (by lia) l2 (by lia) (zs:=w.2.map λ s=>(s,if s=t then (1:Rat) else 0)) (by rw[aR];exact fM _) λ p hp=>F0 t 1 p w.2 g.nd ht;have e:((w.2.map λ s=>(s,if s=t then (1:Rat) else 0)).map λ z=>z.2*z.2).sum=1:=by
  rw[aR];have:w.2.map ((λ z:(Nat×Nat)×Rat=>z.2*z.2)∘λ s=>(s,if s=t then (1:Rat) else 0))=w.2.map λ s=>if s=t then (1:Rat) else 0:=aL λ s _=>by show(if s=t then (1:Rat) else 0)*(if s=t then (1:Rat) else 0)=_;split<;>grind
  rw[this,AN g.nd ht]
 rw[e]at c;have nn:=uy (λ z:(Nat×Nat)×Rat=>z.2-(htQ w t.1 t.2 z.1.1-htQ w t.1 t.2 z.1.2)) (w.2.map λ s=>(s,if s=t then (1:Rat) else 0));refine⟨by grind,λ h s hs=>?_⟩;have z0:=xA (λ z:(Nat×Nat)×Rat=>z.2-(htQ w t.1 t.2 z.1.1-htQ w t.1 t.2 z.1.2)) (w.2.map λ s=>(s,if s=t then (1:Rat) else 0)) (by grind) (s,if s=t then (1:Rat) else 0) (aE.mpr ⟨s,hs,rfl⟩);dsimp only at z0;grind
theorem Good.Kn {t:Nat×Nat}(ht:t∈w.2):hiQ w t.1 t.2=1↔¬ MR (km w t) w.1:=by
 obtain⟨l1,l2⟩:=g.ok t ht;have memS:∀ {s},s∈km w t↔s∈w.2/\s≠t:=λ{s}=>by unfold km;rw[aT];simp
 constructor
 ·intro h MS
  have ev:=(g.Km ht).2 h;have all:=MS (λ v=>htQ w t.1 t.2 v=htQ w t.1 t.2 0) rfl λ p hp=>by
   obtain⟨p1,p2⟩:=memS.mp hp;have:=ev p p1;rw[ag p2]at this;have e:htQ w t.1 t.2 p.1=htQ w t.1 t.2 p.2:=by grind
   rw[e]
  have e1:=all t.1 (by lia);have e2:=all t.2 l2;have e3:=ev t ht;rw[ae rfl]at e3;grind
 ·intro nh
  have nh:∃ S:Nat->Prop,S 0/\(∀ p∈km w t,S p.1↔S p.2)/\∃ v,v<w.1/\¬ S v:=aJ λ h=>nh λ S s0 cl v hv=>aJ λ z=>h ⟨S,s0,cl,v,hv,z⟩;obtain⟨S,s0,cl,v,hv,nv⟩:=nh;have sep:¬ (S t.1↔S t.2):=λ h=>nv (g.MS S s0 (λ p hp=>by
   by_cases c:p=t
   ·rw[c];exact h
   ·exact cl p (memS.mpr ⟨hp,c⟩)) v hv)
  have le:=(g.Km ht).1;have pos:=g.D4 (a:=t.1) (b:=t.2) (by lia) l2 (by lia);have fin:∀ l:Nat->Rat,l t.1=1->l t.2=0->(∀ p∈km w t,l p.1=l p.2)->hiQ w t.1 t.2=1:=λ l la lb cl=>by
   have d:=g.JU (a:=t.1) (b:=t.2) (by lia) l2 (by lia) la lb;have nn:=uy (λ s:Nat×Nat=>(l s.1-l s.2)-(hiQ w t.1 t.2)⁻¹*(htQ w t.1 t.2 s.1-htQ w t.1 t.2 s.2)) w.2;have e:w.2.map (λ s=>(l s.1-l s.2)*(l s.1-l s.2))=w.2.map λ s=>if s=t then (1:Rat) else 0:=aL λ s hs=>by
    by_cases c:s=t
    ·rw[ae c,c,la,lb];grind
    ·rw[ag c,cl s (memS.mpr ⟨hs,c⟩)];grind
   rw[e,AN g.nd ht]at d;have ge:(hiQ w t.1 t.2)⁻¹<=1:=by grind
   have cc:=cT (hiQ w t.1 t.2) (by grind);have k:=Rat.mul_le_mul_of_nonneg_left ge (show 0<=hiQ w t.1 t.2 by grind);rw[cc]at k;grind
  by_cases c:S t.1
  ·have c2:¬ S t.2:=λ z=>sep ⟨λ _=>z,λ _=>c⟩
   classical
   exact fin (λ v=>if S v then 1 else 0) (ae c) (ag c2) λ p hp=>by
    by_cases d:S p.1
    ·rw[ae d,ae ((cl p hp).mp d)]
    ·rw[ag d,ag λ z=>d ((cl p hp).mpr z)]
  ·have c2:S t.2:=aJ λ z=>sep ⟨λ y=>absurd y c,λ y=>absurd y z⟩
   classical
   exact fin (λ v=>if S v then 0 else 1) (ag c) (ae c2) λ p hp=>by
    by_cases d:S p.1
    ·rw[ae d,ae ((cl p hp).mp d)]
    ·rw[ag d,ag λ z=>d ((cl p hp).mpr z)]
theorem Good.Kq (tr:w.2.length+1=w.1){t:Nat×Nat}(ht:t∈w.2):¬ MR (km w t) w.1:=by obtain⟨l1,l2⟩:=g.ok t ht;refine(g.Kn ht).mp ?_;rw[g.MB tr (by lia) l2,(g.As (by lia) l2).mpr (mU.mpr (.inr ht))];rfl
end
end L2
namespace L2
open PySem PySem.Spec PyProof.Rows
def Kr (h:Heap)(p:Addr->Bool):Heap:={h with objs:=h.objs.mapIdx λ i o=>if p i then {o with data:=.freed} else o}
theorem xK (h:Heap)(p:Addr->Bool)(b:Addr):(Kr h p).get? b=if p b then My else h.get? b:=by
 unfold Heap.get? Kr;simp only[Array.getElem?_mapIdx];cases e:h.objs[b]? with
 | none=>simp
 | some o =>
  by_cases c:p b=V0
  ·simp[c]
  ·simp[c]
theorem lX {h base base':Heap}:∀ {l:List Env},h.FunFrames base l->(∀ b∈frs l,base'.get? b=My)->h.FunFrames base' l
 | [],_,_=>trivial
 | env::r,hl,hb=>by obtain⟨hk,⟨L,o,hf,hn,ho,hd⟩,hr⟩:=hl;exact⟨hk,⟨L,o,hf,hb L (by unfold frs;rw[bW,hf];exact av),ho,hd⟩,lX hr λ b m=>hb b (by unfold frs;rw[bW,hf];exact ar _ m)⟩
theorem frames_at {h base:Heap}:∀ {l:List Env},h.FunFrames base l->∀ b∈frs l,∃ o,h.get? b=kb o/\∀ vs,o.data≠.fields vs:=λ hl b hb=>(hl.mem hb).2
structure Fly (Old:Addr->Prop)(H:Hp)(h:Heap)(a:Addr)(cls a0:g_):Prop where
 ex:∃ (oe:Obj) (vs:Array g_) (T:Addr) (oT:Obj) (ts:Array g_),h.get? a=kb oe/\oe.cls=cls/\vs[0]?=kb a0/\oe.data=.fields vs/\vs[1]?=kb (.ref T)/\T≠a/\h.get? T=kb oT/\oT.data=.fields ts/\ts[3]?=kb .none/\H a=My/\H T=My/\∀ b,Old b->b≠a/\b≠T
structure zA (fs:List Addr)(mine:Addr->Prop)(h h':Heap):Prop where
 keep:∀ b o,h.get? b=kb o->b∉fs->¬ mine b->h'.get? b=kb o
 slot:∀ b o,h.get? b=kb o->b∈fs->∃ sl,h'.get? b=kb {o with slots:=sl}
section
variable {M:Model}{A:Around}{E:g0}{s:hE}{base:Heap}{env:Env}{outer:List Env}{L e:Addr}{Q:Unit->hE->Prop}
set_option tactic.hygienic true in
theorem CC (hA:A.frames=kb (env::outer))(hF:s.heap.FunFrames base (env::outer))(hf:env.frame=kb L){oe:Obj}{vs:Array g_}{a0:g_}(he:s.heap.get? e=kb oe)(hd:oe.data=.fields vs)(h0:vs[0]?=kb a0)(h1:vs[1]?=kb .none){H:Hp}{Old:Addr->Prop}(hH:H e=My)
  (hT:∀ b,s.heap.get? b=My->H b=My/\¬ Old b) (ho:¬ Old e) (q:∀ h',zA (frs (env::outer)) (λ b=>b=e) s.heap h'->Fly Old H h' e oe.cls a0->Q () {s with heap:=h'}):wpAny M A (leaving env (.ref e)) Q E s:=by
 have fr:=frames_at hF;have nef:e∉frs (env::outer):=λ z=>by obtain⟨o,ho,hn⟩:=fr e z;rw[he]at ho;cases ho;exact hn vs hd
 let B:=Kr s.heap λ b=>decide (b∈frs (env::outer)\/b=e);have hB:∀ b,B.get? b=if b∈frs (env::outer)\/b=e then My else s.heap.get? b:=λ b=>by rw[xK];by_cases c:b∈frs (env::outer)\/b=e<;>simp[c]
 have stays:B.StaysIn s.heap:=λ b o h=>by
  rw[hB]at h;split at h
  ·cases h
  ·exact h
 have hF':s.heap.FunFrames B (env::outer):=lX hF λ b hb=>by rw[hB,ae (.inl hb)]
 have size:1<vs.size:=by have:=(cf.mp h1).1;exact this
 unfold leaving noteFrame;rw[hf];dsimp only;refine aa (aa (b_ he hd h1 ?_));rw[ag (by decide)];refine wpAny_newEntryW hA hF' hf he stays (by rw[hB,ae (.inr rfl)]) hd size h0 λ h' left=>?_;obtain⟨st,fr2,tr,sl⟩:=left;refine q h' ⟨λ b o hb nf nm=>st b o (by rw[hB,ag (λ z=>z.elim nf nm)];exact hb),λ b o hb hf=>?_⟩ ?_
 ·obtain⟨o2,ho2,hn⟩:=fr b hf;rw[hb]at ho2;cases ho2;exact sl b o hb hn
 ·obtain⟨oe',vs',T,oT,ts,he',⟨hc,hv0⟩,hd',hv1,hBT,hne,hT',hdT,hts⟩:=tr
  have nT:s.heap.get? T=My:=by
   rw[hB]at hBT;split at hBT
   ·rename_i z
    rcases z with z | z
    ·obtain⟨o,ho,hn⟩:=frames_at fr2 T z;rw[hT']at ho;cases ho;exact absurd hdT (hn ts)
    ·exact absurd z hne
   ·exact hBT
  obtain⟨HT,oT'⟩:=hT T nT;exact⟨oe',vs',T,oT,ts,he',hc,hv0,hd',hv1,hne,hT',hdT,hts,hH,HT,λ b hb=>⟨λ z=>ho (z▸hb),λ z=>oT' (z▸hb)⟩⟩
set_option tactic.hygienic true in
theorem MV (hA:A.frames=kb (env::outer))(hF:s.heap.FunFrames base (env::outer))(hf:env.frame=kb L){H:Hp}{Old:Addr->Prop}{cls a0:g_}(fl:Fly Old H s.heap e cls a0)
  (hT:∀ b,s.heap.get? b=My->H b=My/\¬ Old b) (q:∀ h' (T:Addr),H T=My->¬ Old T->zA (frs (env::outer)) (λ b=>b=e\/b=T) s.heap h'->Fly Old H h' e cls a0->Q () {s with heap:=h'}) :
  wpAny M A (noteFrame (.ref e) env) (λ _ s'=>wpAny M A (setFlight (.ref e) My) Q E s') E s:=by
 obtain⟨oe,vs,T,oT,ts,he,hc,h0,hd,h1,hne,hT0,hdT,hts,hH,HT,old⟩:=fl.ex;have fr:=frames_at hF;have nef:∀ {b o us},s.heap.get? b=kb o->o.data=.fields us->b∉frs (env::outer):=λ{b o us} hb hu z=>by obtain⟨o2,ho,hn⟩:=fr b z;rw[hb]at ho;cases ho;exact hn us hu
 let B:=Kr s.heap λ b=>decide (b∈frs (env::outer)\/b=e\/b=T);have hB:∀ b,B.get? b=if b∈frs (env::outer)\/b=e\/b=T then My else s.heap.get? b:=λ b=>by rw[xK];by_cases c:b∈frs (env::outer)\/b=e\/b=T<;>simp[c]
 have stays:B.StaysIn s.heap:=λ b o h=>by
  rw[hB]at h;split at h
  ·cases h
  ·exact h
 have hF':s.heap.FunFrames B (env::outer):=lX hF λ b hb=>by rw[hB,ae (.inl hb)]
 have Be:B.get? e=My:=by rw[hB,ae (.inr (.inl rfl))]
 have BT:B.get? T=My:=by rw[hB,ae (.inr (.inr rfl))]
 refine wpAny_noteFrame_onW hA hF' hf ⟨oe,vs,T,oT,ts,he,⟨hc,h0⟩,hd,h1,BT,hne,hT0,hdT,hts⟩ stays Be λ h1' nt=>?_;obtain⟨st1,fr1,tr1,sl1⟩:=nt;refine wpAny_landsW (base:=B) (l:=env::outer) (cls:=cls) (a0:=a0) (L:=L) ⟨st1,Be,fr1,tr1⟩ λ h2 fl2 up=>?_;obtain⟨st2,_,fr2,tr2⟩:=fl2;refine q h2 T HT (λ z=>(old T z).2 rfl) ⟨λ b o hb nf nm=>st2 b o (by rw[hB,ag (λ z=>z.elim nf nm)];exact hb),λ b o hb hf=>?_⟩ ?_
 ·obtain⟨o2,ho2,hn⟩:=fr b hf;rw[hb]at ho2;cases ho2;obtain⟨sl,e1⟩:=sl1 b o hb hn;obtain⟨sl',e2⟩:=up b _ e1 hn;exact⟨sl',e2⟩
 ·obtain⟨oe',vs',T',oT',ts',he',⟨hc',hv0⟩,hd',hv1,hBT,hne',hT',hdT',hts'⟩:=tr2
  have nT:H T'=My/\¬ Old T':=by
   rw[hB]at hBT;split at hBT
   ·rename_i z
    rcases z with z | z | z
    ·obtain⟨o,ho,hn⟩:=frames_at fr2 T' z;rw[hT']at ho;cases ho;exact absurd hdT' (hn ts')
    ·exact absurd z hne'
    ·rw[z];exact⟨HT,λ z=>(old T z).2 rfl⟩
   ·exact hT T' hBT
  exact⟨oe',vs',T',oT',ts',he',hc',hv0,hd',hv1,hne',hT',hdT',hts',hH,nT.1,λ b hb=>⟨(old b hb).1,λ z=>nT.2 (z▸hb)⟩⟩
end
section
variable {P:Program}{w:World}{H H':Hp}{h h' h0:Heap}{a:Addr}
theorem jO.there {o:HO}(x:jO P w H h a o):∃ u,h.get? a=kb u:=by
 cases o with
 | lst xs=>obtain⟨_,_,_,_,e⟩:=x;exact⟨_,e⟩
 | tup xs=>obtain⟨⟨_,o,e,_⟩,_⟩:=x;exact⟨_,e⟩
 | dK kvs=>obtain⟨_,_,_,_,o,_,_,e,_⟩:=x;exact⟨_,e⟩
 | dT kvs=>obtain⟨_,_,_,_,o,_,_,e,_⟩:=x;exact⟨_,e⟩
 | set S n=>obtain⟨o,_,_,_,e,_⟩:=x;exact⟨_,e⟩
 | ins C dx fs=>obtain⟨_,_,_,e,_⟩:=x;exact⟨_,e⟩
 | own y=>exact x
 | xd fs=>obtain⟨_,⟨_,_,_,e,_⟩,_⟩:=x;exact⟨_,e⟩
 | rng lo hi=>obtain⟨_,_,_,e⟩:=x;exact⟨_,e⟩
 | frz ob u=>obtain⟨e,_⟩:=x;exact⟨_,e⟩
 | tbl ps=>exact⟨_,x⟩
 | met f y=>exact⟨_,x⟩
 | ext φ=>obtain⟨_,e,_⟩:=x;exact e
theorem HOk.new (x:HOk P w H h)(e:h.get? a=My):H a=My:=by
 cases q:H a with
 | none=>rfl
 | some u=>obtain⟨o,z⟩:=(x a u q).there;rw[e]at z;cases z
theorem HOk.xM {fs:List Addr}{mine:Addr->Prop}(x:HOk P w H h)(n:zA fs mine h h')(hf:∀ b∈fs,H b=My)(hm:∀ b,mine b->H b=My):HOk P w H h':=λ b u e =>
 (x b u e).vZ (λ c v hc q=>n.keep c v q (λ z=>by
   rcases hc with rfl | hc
   ·rw[hf _ z]at e;cases e
   ·rw[hf _ z]at hc;cases hc) λ z=>by
   rcases hc with rfl | hc
   ·rw[hm _ z]at e;cases e
   ·rw[hm _ z]at hc;cases hc) (λ _ q=>q) λ _ _ q=>q
theorem Un.xM {fs:List Addr}{L:Addr}{mine:Addr->Prop}(u:Un fs [] H H' h0 h)(n:zA (L::fs) mine h h')(hL:h0.get? L=My)(hm:∀ b,h0.get? b≠My->¬ mine b):Un fs [] H H' h0 h':=by
 have ne:∀ {b o},h0.get? b=kb o->b≠L:=λ{b o} e z=>by rw[z,hL]at e;cases e
 have nm:∀ {b o},h0.get? b=kb o->¬ mine b:=λ{b o} e=>hm b (by rw[e];simp);refine⟨λ b o e hn hb hx=>n.keep b o (u.keep b o e hn hb hx) (λ z=>(aG.mp z).elim (ne e) hb) (nm e),λ b o e hn hb hx=>?_,u.free,λ b o e hx=>?_,u.pJ,u.pK,u.tP⟩
 ·obtain⟨sl,e1⟩:=u.slot b o e hn hb hx;obtain⟨sl',e2⟩:=n.slot b _ e1 (ar _ hb);exact⟨sl',e2⟩
 ·obtain⟨o',e1⟩:=u.there b o e hx
  by_cases c:b∈L::fs
  ·obtain⟨sl,e2⟩:=n.slot b o' e1 c;exact⟨_,e2⟩
  ·exact⟨o',n.keep b o' e1 c (nm e)⟩
end
def CXE (P:Program)(w:World):CXT:=λ outer H s E e s'=>∃ a cls a0 H',e=.ref a/\s'.os=s.os/\AllBare s'.gens/\Un (frs outer) [] H H' s.heap s'.heap/\HOk P w H' s'.heap/\Fly (λ b=>s.heap.get? b≠My) H' s'.heap a cls a0/\E cls (kb a) H'
section
variable {P:Program}{w:World}{K:g9}{mg:gZ}{base:Heap}{N:List Str}{qual:Str}{scope:Scope}{f:Addr}{cd:g_}{A:Around}{outer:List Env}{s s1:hE}{H H1:Hp}{E:XK}{pins:hJ}{σ:St}
abbrev cxE (P:Program)(w:World)(K:g9)(mg:gZ)(base:Heap)(N:List Str)(qual:Str)(scope:Scope)(f:Addr)(cd:g_)(A:Around)(outer:List Env)(s:hE)(H:Hp)(E:XK):Cx:=se (CXE P w) P w K mg base N qual scope f cd A outer s H E
theorem QQ (I:Inv (cxE P w K mg base N qual scope f cd A outer s H E) pins σ H1 s1){h2:Heap}{e:Addr}{cls:g_}{vs:List g_}(m:s1.heap.MadeExcOf h2 e cls vs)(q:E cls (kb e) H1)(t:Nat) :
  (cxE P w K mg base N qual scope f cd A outer s H E).xe (.ref e) {s1 with heap:=h2,toks:=t}:=by
 have J:=I.kept (t':=t) m.keeps;obtain⟨tt,he,ht,_⟩:=m.there;have hH:H1 e=My:=I.hok.new m.new;have old:∀ b,s1.heap.get? b=My->s.heap.get? b=My:=λ b hb=>by
  cases q:s.heap.get? b with
  | none=>rfl
  | some o =>obtain⟨o',z⟩:=I.base.there b o q (by show b∉[];simp);rw[hb]at z;cases z
 refine CC (L:=s.heap.objs.size) J.ok.frames J.stack rfl he rfl rfl rfl (H:=H1) (Old:=λ b=>s.heap.get? b≠My) hH (λ b hb=>?_) (λ z=>z (old e m.new)) λ h' n fl=>?_
 ·refine⟨J.hok.new hb,λ z=>z ?_⟩
  cases q:s.heap.get? b with
  | none=>rfl
  | some o =>obtain⟨o',z⟩:=J.base.there b o q (by show b∉[];simp);have z:h2.get? b=kb o':=z;have hb:h2.get? b=My:=hb;rw[hb]at z;cases z
 ·exact⟨e,cls,_,H1,rfl,J.os,J.bare,J.base.xM n (dO (aq _)) λ b hb z=>by rw[z]at hb;exact hb (old e m.new),J.hok.xM n J.vK (λ b z=>by rw[z];exact hH),fl,q⟩
end
abbrev AO:List g_:=[.type "ValueError",.type "Exception",.type "BaseException",.type "object"]
structure ClT (K:g9)(mg:gZ)(x:Str)(dn:List g_) where
 C:Addr
 n:PySem.W.nsIn K mainGlobals x=kb (kb (.ref C))
 m:mg x=kb (.ref C)
 ex:PySem.W.excIn K C AO "ValueError.__new__"=V0
 mro:(PySem.W.clsIn K C).map (·.mro)=kb (.ref C::(dn++AO))
theorem QR {K:g9}{mg:gZ}{base:Heap}(M:Mod K mg base):∃ p loose mb,PySem.W.TopRead p loose mg mb base:=by
 obtain⟨mb,hb,hm⟩:=M.blt;obtain⟨o,es,ep,e1,e2,sk,e3⟩:=id M.glob;refine⟨(default:Program),es.toList.filterMap (λ e=>match e.key with | .str s _=>kb s | _=>My),mb,M.glob,hb,M.nolimit,hm,λ x _ hl _ _ _=>?_⟩;rw[<-e3 x];show(es.find? λ e=>e.key.isStr x).map (·.val)=My;cases q:es.find? λ e=>e.key.isStr x with
 | none=>rfl
 | some d =>
  exfalso;have h1:=Array.find?_some q;have h2:=Array.mem_of_find?_eq_some q;refine hl (du.mpr ⟨d,by simpa using h2,?_⟩);cases hk:d.key with
  | str s t =>
   rw[hk]at h1;have:s=x:=by simpa [Value.isStr] using h1
   rw[this]
  | _=>rw[hk]at h1;cases h1
theorem MW {K:g9}{mg:gZ}{base:Heap}(M:Mod K mg base){x:Str}{dn:List g_}(c:ClT K mg x dn):OwnCls x c.C AO "ValueError.__new__" mg base:=by obtain⟨p,loose,mb,T⟩:=QR M;exact PySem.W.own_of_in M.kin T c.n c.ex
def QS (t:TA)(C:Addr)(E:XK):TS:=λ D σ H=>t σ H λ vs H1=>vs.length<=sizeLine/\∀ e,H1 e=My->E (.ref C) (kb e) H1
section
variable {P:Program}{w:World}{K:g9}{mg:gZ}{base:Heap}{N:List Str}{qual:Str}{scope:Scope}{f:Addr}{cd:g_}{A:Around}{outer:List Env}{s:hE}{H:Hp}{E:XK}{x:Str}{np cpos pos:Pos}{e0:Expr}{dn:List g_}{t:TA}
theorem Ks (c:ClT K mg x dn)(hd:(cxE P w K mg base N qual scope f cd A outer s H E).A.handled=My)(ha:PA (cxE P w K mg base N qual scope f cd A outer s H E) [e0] t)(hg:Gl (cxE P w K mg base N qual scope f cd A outer s H E) x:=by rfl)(hdb:(x==("__debug__":Str))=V1:=by decide)
  (he:starEach [e0] (cxE P w K mg base N qual scope f cd A outer s H E).env=[(V1,eval e0 (cxE P w K mg base N qual scope f cd A outer s H E).env)]:=by rfl) :
  PS (cxE P w K mg base N qual scope f cd A outer s H E) (.Raise (kb (.Call (.Name x np) [e0] [] cpos)) My pos) (QS t c.C E):=by
 intro pins s1 σ H1 D I h;obtain⟨bm,N0,nm,q,bs,hdct,sn,sub,ab,col,dd,k0,k1,k2,k3,k5,mN,e1,e2,e3,e4⟩:=(MW I.mod c).obj;have he2:backTo cpos (starEach [e0] (cxE P w K mg base N qual scope f cd A outer s H E).env)=[(V1,eval e0 (cxE P w K mg base N qual scope f cd A outer s H E).env)]:=by rw[he];rfl
 refine wpAny_Raise_call_subU (nm:=nm) (q:=q) (C:=c.C) (N:=N0) (bs:=bs) (hdct:=hdct) (sn:=sn) (sub:=sub) (ab:=ab) (col:=col) (dd:=dd) (k0:=k0) (k1:=k1) (k2:=k2) (k3:=k3) (k5:=k5) F.excBase_ValueError (by decide) F.excBase_ValueError (e4.hasType (by decide)) hd (by rw[he2];rfl) e3 (r9 I hg c.m ⟨rfl,?_⟩ hdb);rw[he2];refine Calls.evalArgs_plain ?_;have:=ha cpos pins s1 σ H1 _ I h;rw[he2]at this;refine thn this λ us s2 ⟨vs,H2,I2,r2,hz,q2⟩=>⟨rfl,by rw[<-r2.length];exact hz,I2.bk _ _ e1,?_,e4.keeps I2.bk,λ h' e made=>?_⟩
 ·obtain⟨o,es,ep,z1,z2⟩:=e2;exact⟨o,es,ep,I2.bk _ _ z1,z2⟩
 ·exact QQ I2 made (q2 e (I2.hok.new made.new)) _
end
section
variable {X Y:Cx}{pins:hJ}{σ:St}{H:Hp}{s:hE}
structure Alike (X Y:Cx):Prop where
 prog:Y.prog=X.prog
 w:Y.w=X.w
 K:Y.K=X.K
 mg:Y.mg=X.mg
 base:Y.base=X.base
 N:Y.N=X.N
 s0:Y.s₀=X.s₀
 H0:Y.H₀=X.H₀
 env:Y.env=X.env
 outer:Y.outer=X.outer
 stack:Y.stack=X.stack
 ex:Y.ex=X.ex
 fn:Y.fn=X.fn
 fr:Y.A.frames=X.A.frames
theorem Inv.alike {pins':hJ}(a:Alike X Y)(I:Inv X pins σ H s)(hd:Y.calm=V0->Y.A.handled=My)(hp:∀ p∈Y.pn++pins',p∈X.pn++pins):Inv Y pins' σ H s:=by obtain⟨prog,w,K,mg,base,A,N,s0,H0,env,outer,stack,ex,fn,calm,pn,xe⟩:=X;obtain⟨prog',w',K',mg',base',A',N',s0',H0',env',outer',stack',ex',fn',calm',pn',xe'⟩:=Y;obtain⟨a1,a2,a3,a4,a5,a6,a7,a8,a9,a10,a11,a12,a13,a14⟩:=a;dsimp only at a1 a2 a3 a4 a5 a6 a7 a8 a9 a10 a11 a12 a13 a14;subst a1 a2 a3 a4 a5 a6 a7 a8 a9 a10 a11 a12 a13;obtain⟨ok,os,bare,bs,loc,cell,free,lY,pin,hok,len⟩:=I;exact⟨⟨ok.mod,ok.kind,ok.glob,ok.blt,ok.above,ok.inj,ok.has,ok.cab,hd,a14.trans ok.frames,ok.stk,ok.exf,ok.bs,ok.bsz,ok.C6,ok.HH,ok.tQ,ok.frf⟩,os,bare,bs,loc,cell,free,lY,λ p h=>pin p (hp p h),hok,len⟩
def G7 (X:Cx)(pn:hJ)(b:Addr):Prop:=X.s₀.heap.get? b≠My\/(∃ p∈pn,p.1=b)\/b=X.env.locals\/∃ x,X.env.cells.lookup x=kb b
def Cx.pnC (X:Cx)(pn:hJ):Cx:={X with pn:=pn}
def Cx.CD (X:Cx)(E':XK)(pn:hJ):Cx:={X with pn:=pn,xe:=λ e s'=>∃ σ H a cls a0,e=.ref a/\Inv (X.pnC pn) [] σ H s'/\Fly (G7 X pn) H s'.heap a cls a0/\E' cls (kb a) H}
def Cx.hdC (X:Cx)(a:Addr)(pn:hJ):Cx:={X with A:=X.A.mark (kb (.ref a)),calm:=V1,pn:=pn,xe:=λ _ _=>False}
theorem G8 {E':XK}{pn:hJ}:Alike X (X.CD E' pn):=⟨rfl,rfl,rfl,rfl,rfl,rfl,rfl,rfl,rfl,rfl,rfl,rfl,rfl,rfl⟩
theorem qN {E':XK}{pn:hJ}:Alike (X.CD E' pn) X:=⟨rfl,rfl,rfl,rfl,rfl,rfl,rfl,rfl,rfl,rfl,rfl,rfl,rfl,rfl⟩
theorem Kt {E':XK}{pn:hJ}:Alike (X.CD E' pn) (X.pnC pn):=⟨rfl,rfl,rfl,rfl,rfl,rfl,rfl,rfl,rfl,rfl,rfl,rfl,rfl,rfl⟩
theorem CF {a:Addr}{pn:hJ}:Alike (X.pnC pn) (X.hdC a pn):=⟨rfl,rfl,rfl,rfl,rfl,rfl,rfl,rfl,rfl,rfl,rfl,rfl,rfl,rfl⟩
theorem Ku {a:Addr}{pn:hJ}:Alike (X.hdC a pn) X:=⟨rfl,rfl,rfl,rfl,rfl,rfl,rfl,rfl,rfl,rfl,rfl,rfl,rfl,rfl⟩
theorem Inv.old {pn:hJ}(I:Inv (X.pnC pn) pins σ H s)(hx:X.ex=[]){b:Addr}(h:G7 X pn b):s.heap.get? b≠My:=by
 rcases h with h | ⟨p,hp,rfl⟩ | rfl | ⟨x,hc⟩
 ·intro z
  cases q:X.s₀.heap.get? b with
  | none=>exact h q
  | some o =>obtain⟨o',e⟩:=I.base.there b o q (by show b∉X.ex;rw[hx];simp);rw[z]at e;cases e
 ·have:=(I.pin p (aM _ hp)).1;rw[this];simp
 ·obtain⟨m,⟨o,es,ep,ho,_⟩,_⟩:=I.loc;have ho:s.heap.get? X.env.locals=kb o:=ho;rw[ho];simp
 ·obtain⟨v,o,ho,_⟩:=I.cell x b hc;rw[ho];simp
theorem QT {P:Program}{w:World}{E':XK}{pn:hJ}(hP:X.prog=P)(hw:X.w=w)(hx:X.ex=[]):Passes (CXE P w) (X.CD E' pn) E':=by subst hP hw;rintro pins σ H1 s1 e s2 I ⟨a,cls,a0,H2,rfl,os,bare,un,hok,fl,q⟩;obtain⟨hh,g,d,t,os'⟩:=s2;obtain rfl:os'=s1.os:=os;have J:=I.call (h':=hh) (g':=g) (d':=d) (t':=t) (ch:=[]) un hok bare (λ b z=>absurd z (by simp));have I0:Inv (X.pnC pn) [] σ H1 s1:=I.alike Kt I.ok.hd λ p hp=>aM _ (show p∈pn by have:p∈pn++[]:=hp;simpa using this);refine⟨σ,H2,a,cls,a0,rfl,J.alike Kt J.ok.hd λ p hp=>aM _ (show p∈pn by have:p∈pn++[]:=hp;simpa using this),?_,q⟩;obtain⟨oe,vs,T,oT,ts,h1,h2,h3,h4,h5,h6,h7,h8,h9,h10,h11,h12⟩:=fl.ex;exact⟨oe,vs,T,oT,ts,h1,h2,h3,h4,h5,h6,h7,h8,h9,h10,h11,λ b hb=>h12 b (I0.old hx hb)⟩
end
section
variable {X:Cx}{pins:hJ}{σ:St}{H:Hp}{s:hE}{h':Heap}
theorem Inv.xM {mine:Addr->Prop}(J:Inv X pins σ H s)(n:zA (frs X.stack) mine s.heap h')(hm:∀ b,mine b->H b=My/\X.s₀.heap.get? b=My/\b≠X.env.locals/\(∀ x c,X.env.cells.lookup x=kb c->c≠b)/\∀ p∈X.pn++pins,p.1≠b):Inv X pins σ H {s with heap:=h'}:=by
 have any:∀ b o,s.heap.get? b=kb o->¬ mine b->∃ sl,h'.get? b=kb {o with slots:=sl}:=λ b o e nm=>by
  by_cases c:b∈frs X.stack
  ·exact n.slot b o e c
  ·exact⟨o.slots,n.keep b o e c nm⟩
 have ent:∀ {b o},X.s₀.heap.get? b=kb o->¬ mine b:=λ{b o} e z=>by rw[(hm b z).2.1]at e;cases e
 have entL:∀ {b o},X.s₀.heap.get? b=kb o->b≠X.env.locals:=λ{b o} e=>aU (aB (aw e) J.ok.above);have cellK:∀ x c,X.env.cells.lookup x=kb c->∀ v,s.heap.IsCell c v->h'.IsCell c v:=λ x c e v ⟨o,ho,hd⟩=>by obtain⟨sl,z⟩:=any c o ho λ z=>(hm c z).2.2.2.1 x c e rfl;exact⟨_,z,hd⟩
 have nsub:∀ {b},b≠X.env.locals->b∉X.fs->b∉frs X.stack:=λ{b} h1 h2 z=>(aG.mp (J.tR b z)).elim h1 h2;refine⟨J.ok,J.os,J.bare,⟨λ b o e hn hb hx=>n.keep b o (J.base.keep b o e hn hb hx) (nsub (entL e) hb) (ent e),λ b o e hn hb hx=>?_,J.base.free,λ b o e hx=>?_,J.base.pJ,J.base.pK,J.base.tP⟩,?_,λ x c e=>?_,J.free,J.lY,λ p hp=>?_,J.hok.xM n J.vK λ b z=>(hm b z).1,J.len⟩
 ·obtain⟨sl,e1⟩:=J.base.slot b o e hn hb hx;obtain⟨sl',e2⟩:=any b _ e1 (ent e);exact⟨sl',e2⟩
 ·obtain⟨o',e1⟩:=J.base.there b o e hx;obtain⟨sl,e2⟩:=any b o' e1 (ent e);exact⟨_,e2⟩
 ·obtain⟨m,⟨o,es,ep,ho,hd,hr⟩,hl⟩:=J.loc
  obtain⟨sl,z⟩:=any _ o ho λ z=>(hm _ z).2.2.1 rfl;refine⟨m,⟨_,es,ep,z,hd,hr⟩,λ i x v e1 e2 e3=>?_⟩;obtain⟨u,r,l⟩:=hl i x v e1 e2 e3;refine⟨u,r,?_⟩;rcases l with l | ⟨k,c,e,z⟩
  ·exact .inl l
  ·exact .inr ⟨k,c,e,cellK x c e _ z⟩
 ·obtain⟨v,z⟩:=J.cell x c e;exact⟨v,cellK x c e v z⟩
 ·obtain⟨e,hn,ne,nf,d⟩:=J.pin p hp;exact⟨n.keep p.1 p.2 e (nsub ne nf) λ z=>(hm _ z).2.2.2.2 p hp rfl,hn,ne,nf,d⟩
theorem Inv.QU {D:Addr}{o:HO}(I:Inv X pins σ H s)(hn:H D=My)(hs:X.s₀.heap.get? D=My)(hL:D≠X.env.locals)(hc:∀ x c,X.env.cells.lookup x=kb c->c≠D)(hp:∀ p∈X.pn++pins,p.1≠D)
  (new:jO X.prog X.w (upd H D o) s.heap D o):Inv X pins σ (upd H D o) s:=by
 have ne:∀ b u,H b=kb u->b≠D:=λ b u e z=>by rw[z,hn]at e;cases e
 refine⟨I.ok,I.os,I.bare,⟨I.base.keep,I.base.slot,λ b ob e n hx=>?_,I.base.there,λ b xs e=>?_,λ b ob u e=>?_,λ b ps e=>?_⟩,I.loc,I.cell,?_,λ x c e=>?_,λ p hp'=>?_,λ b u e=>?_,I.len⟩
 ·have:b≠D:=λ z=>by rw[z,hs]at e;cases e
  rw[iI this];exact I.base.free b ob e n hx
 ·have q:=I.base.pJ b xs e;rw[iI (ne _ _ q)];exact q
 ·have q:=I.base.pK b ob u e;rw[iI (ne _ _ q)];exact q
 ·obtain⟨more,q⟩:=I.base.tP b ps e;exact⟨more,by rw[iI (ne _ _ q)];exact q⟩
 ·rw[iI hL.symm];exact I.free
 ·rw[iI (hc x c e)];exact I.lY x c e
 ·obtain⟨a1,a2,a3⟩:=I.pin p hp';exact⟨a1,by rw[iI (hp p hp')];exact a2,a3⟩
 ·by_cases c:b=D
  ·subst c;rw[ir]at e;cases e;exact new
  ·rw[iI c]at e;exact(I.hok b u e).vZ (λ _ _ _ q=>q) (λ c' q=>by rw[iI (ne _ _ q)];exact q) λ c' xs q=>by rw[iI (ne _ _ q)];exact q
def isC (a:Addr)(cls:g_):Heap->Prop:=λ h=>∃ oe,h.get? a=kb oe/\oe.cls=cls
theorem QV {P:Program}{w:World}{h:Heap}{a:Addr}{cls:g_}(e:isC a cls h):jO P w H h a (.ext (isC a cls)):=by obtain⟨oe,e1,e2⟩:=e;exact⟨⟨oe,e1,e2⟩,⟨oe,e1⟩,λ h1 h2 ⟨o,z1,z2⟩ k=>⟨o,k o z1,z2⟩⟩
end
section
variable {M:Model}{A:Around}{E:g0}{s:hE}{base:Heap}{l:List Env}{e:Addr}{Q:Unit->hE->Prop}
set_option tactic.hygienic true in
theorem G9 (hF:s.heap.FunFrames base l){H:Hp}{Old:Addr->Prop}{cls a0:g_}(fl:Fly Old H s.heap e cls a0)
  (hT:∀ b,s.heap.get? b=My->H b=My/\¬ Old b) (q:∀ h' (T:Addr),H T=My->¬ Old T->zA (frs l) (λ b=>b=e\/b=T) s.heap h'->Fly Old H h' e cls a0->Q () {s with heap:=h'}):wpAny M A (setFlight (.ref e) My) Q E s:=by
 obtain⟨oe,vs,T,oT,ts,he,hc,h0,hd,h1,hne,hT0,hdT,hts,hH,HT,old⟩:=fl.ex;have fr:=frames_at hF;let B:=Kr s.heap λ b=>decide (b∈frs l\/b=e\/b=T);have hB:∀ b,B.get? b=if b∈frs l\/b=e\/b=T then My else s.heap.get? b:=λ b=>by rw[xK];by_cases c:b∈frs l\/b=e\/b=T<;>simp[c]
 have stays:B.StaysIn s.heap:=λ b o h=>by
  rw[hB]at h;split at h
  ·cases h
  ·exact h
 have hF':s.heap.FunFrames B l:=lX hF λ b hb=>by rw[hB,ae (.inl hb)]
 have Be:B.get? e=My:=by rw[hB,ae (.inr (.inl rfl))]
 have BT:B.get? T=My:=by rw[hB,ae (.inr (.inr rfl))]
 refine lands_againW (base:=B) (l:=l) (cls:=cls) (a0:=a0) ⟨stays,Be,hF',oe,vs,T,oT,ts,he,⟨hc,h0⟩,hd,h1,BT,hne,hT0,hdT,hts⟩ λ h2 fl2 up=>?_;obtain⟨st2,_,fr2,tr2⟩:=fl2;refine q h2 T HT (λ z=>(old T z).2 rfl) ⟨λ b o hb nf nm=>st2 b o (by rw[hB,ag (λ z=>z.elim nf nm)];exact hb),λ b o hb hf=>?_⟩ ?_
 ·obtain⟨o2,ho2,hn⟩:=fr b hf;rw[hb]at ho2;cases ho2;exact up b o hb hn
 ·obtain⟨oe',vs',T',oT',ts',he',⟨hc',hv0⟩,hd',hv1,hBT,hne',hT',hdT',hts'⟩:=tr2
  have nT:H T'=My/\¬ Old T':=by
   rw[hB]at hBT;split at hBT
   ·rename_i z
    rcases z with z | z | z
    ·obtain⟨o,ho,hn⟩:=frames_at fr2 T' z;rw[hT']at ho;cases ho;exact absurd hdT' (hn ts')
    ·exact absurd z hne'
    ·rw[z];exact⟨HT,λ z=>(old T z).2 rfl⟩
   ·exact hT T' hBT
  exact⟨oe',vs',T',oT',ts',he',hc',hv0,hd',hv1,hne',hT',hdT',hts',hH,nT.1,λ b hb=>⟨(old b hb).1,λ z=>nT.2 (z▸hb)⟩⟩
end
structure WT (K:g9)(mg:gZ)(x:Str) extends ClT K mg x [] where
 w1:PySem.W.instIn K (.ref C) (.type "tuple")=kb V1
 w2:PySem.W.subIn K (.ref C) (.type "BaseException")=kb V0
section
variable {M:Model}{A:Around}{E:g0}{s:hE}{K:g9}{mg:gZ}
set_option tactic.hygienic true in
theorem G_ {x:Str}(KX:K.In s.heap)(W:WT K mg x){a C:Addr}(ht:isC a (.ref C) s.heap)(sb:PySem.W.subIn K (.ref C) (.ref W.C)=kb V0){Q:Bool->hE->Prop}(q:Q V0 s):wpAny M A (excMatches (.ref a) (.ref W.C)) Q E s:=by
 have keep:∀ b o,s.heap.get? b=kb o->s.heap.get? b=kb o:=λ _ _ h=>h;obtain⟨oe,e1,e2⟩:=ht;unfold excMatches;refine aa (PySem.W.looks_instIn KX W.w1 A _ E s keep ?_);rw[ag ax];dsimp only;refine aa (ah ?_);obtain⟨cd,hcd⟩:∃ cd,PySem.W.clsIn K W.C=kb cd:=by
  have:=W.mro;cases q:PySem.W.clsIn K W.C with
  | none=>rw[q]at this;cases this
  | some cd=>exact⟨cd,rfl⟩
 obtain⟨oc,hoc,hdc⟩:∃ oc,s.heap.get? W.C=kb oc/\oc.data=.cls cd:=by
  unfold PySem.W.clsIn at hcd;split at hcd
  ·rename_i o1 o2 o3 o4 o5 hl;cases hcd;exact⟨_,KX _ _ hl,rfl⟩
  ·cases hcd
 rw[eW];refine aa (aa (aa ?_));unfold isExcClass;refine aa (ks_wpAny_isType_cls hoc hdc ?_);rw[ae rfl];refine PySem.W.looks_subIn KX W.w2 A _ E s keep ?_;rw[ag (by decide)];refine ah ?_;dsimp only;rw[fZ];refine ah ?_;refine aa (wpAny_typeOf_ref e1 ?_);rw[e2,eW];refine aa (aa (aa (PySem.W.looks_subIn KX sb A _ E s keep ?_)));rw[ae rfl];refine ah ?_;dsimp only;exact ah (ah q)
end
section
variable {X:Cx}{pins:hJ}{σ:St}{H:Hp}{s:hE}
theorem Hb {M:Model}{A:Around}{E:g0}{i:Nat}{x:Str}{pos:Pos}(I:Inv X pins σ H s)(hN:X.N.Nodup)(hi:X.N[i]?=kb x)(hk:X.env.scope.names.lookup x=kb .local){Q:Unit->hE->Prop}
  (q:∀ s',Inv X pins (σ.set i My) H s'->Q () s'):wpAny M A (do bindName X.env x .none;unbindBehindTheSuite X.env x pos) Q E s:=by
 have hiσ:i<σ.length:=by rw[I.len];exact(a_.mp hi).1
 have hcls:(X.env.scope.kind==.class || (X.env.scope.kind==.module&&X.env.locals != X.env.globals))=V1:=by rw[I.ok.kind];rfl
 refine aa (wpAny_bindName (nR I hN hi (.inl hk) (v:=.non) (u:=.none) rfl (λ s1 I1=>?_) (.inr hk)));unfold unbindBehindTheSuite;refine fJ ?_;obtain⟨m,hn,hl⟩:=id I1.loc;have hm:∃ u,m x=kb u:=by
  obtain⟨u,_,l⟩:=hl i x .non hi (by rw[cu hiσ]) (.inl hk);rcases l with⟨_,e⟩ | ⟨k,_⟩
  ·exact⟨u,e⟩
  ·have k:X.env.scope.names.lookup x=kb .cell\/X.env.scope.names.lookup x=kb .free:=k;rw[hk]at k;rcases k with k | k<;>cases k
 obtain⟨u0,hm⟩:=hm;refine wpAny_unbindName_local hk hn hm hcls λ h' u hn' hs=>q _ ?_;obtain⟨oL,_,_,hoL,_⟩:=id hn;have entL:∀ {b o},X.s₀.heap.get? b=kb o->b≠X.env.locals:=λ{b o} e=>aU (aB (aw e) I1.ok.above);refine⟨I1.ok,I1.os,I1.bare,⟨λ b o e n hb hx=>?_,λ b o e n hb hx=>?_,I1.base.free,λ b o e hx=>?_,I1.base.pJ,I1.base.pK,I1.base.tP⟩,⟨_,hn',λ j y v' e1 e2 e3=>?_⟩,λ y c e=>?_,I1.free,I1.lY,λ p hp=>?_,λ b ob e=>?_,by have:=I1.len;simpa using this⟩
 ·exact(hs.2 b (entL e)).trans (I1.base.keep b o e n hb hx)
 ·obtain⟨sl,e1⟩:=I1.base.slot b o e n hb hx;exact⟨sl,(hs.2 b (entL e)).trans e1⟩
 ·obtain⟨o',e1⟩:=I1.base.there b o e hx;exact⟨o',(hs.2 b (entL e)).trans e1⟩
 ·by_cases hj:j=i
  ·subst hj;rw[cu hiσ]at e2;cases e2
  ·rw[bK (aY hj)]at e2
   obtain⟨u',r',l⟩:=hl j y v' e1 (by rw[bK (aY hj)];exact e2) e3;refine⟨u',r',?_⟩;rcases l with⟨k,e⟩ | ⟨k,c,e,z⟩
   ·refine .inl ⟨k,?_⟩;have:y≠x:=λ e=>hj (v8 hN e1 (e▸hi));simp[this,e]
   ·exact .inr ⟨k,c,e,z.sameBut hs (I1.cne y c e)⟩
 ·obtain⟨w',z⟩:=I1.cell y c e;exact⟨w',z.sameBut hs (I1.cne y c e)⟩
 ·obtain⟨e,n,ne,nf,d⟩:=I1.pin p hp;exact⟨(hs.2 p.1 ne).trans e,n,ne,nf,d⟩
 ·refine(I1.hok b ob e).vZ (λ c w' hc q=>(hs.2 c ?_).trans q) (λ _ q=>q) λ _ _ q=>q
  rintro rfl;rcases hc with rfl | hc
  ·rw[I1.free]at e;cases e
  ·rw[I1.free]at hc;cases hc
def Ve (n i:Nat)(K:g9)(Wc:Addr)(tb:XK->TS)(th:TS):TS:=λ D σ H=>∃ E':XK,tb E' D σ H/\∀ cls a H',E' cls (kb a) H'->H' a=My ->
 (∃ C,cls=.ref C/\PySem.W.subIn K (.ref C) (.ref Wc)=kb V0)/\∀ σ1:St,σ1.length=n->th {nx:=λ _ _=>False,rt:=D.rt} (σ1.set i (kb (.ref a))) (upd H' a (.ext (isC a cls)))
theorem QX {wn n:Str}{i:Nat}{body suite:List Stmt}{b₀:Stmt}{wp hp pos:Pos}{tb:XK->TS}{th:TS}(W:WT X.K X.mg wn)(hb:∀ E' pn,PSs (X.CD E' pn) body (tb E'))(hh:∀ a pn,PSs (X.hdC a pn) (b₀::suite) th)(hst:X.stack=X.env::X.outer:=by rfl)(hfr:X.env.frame=kb X.env.locals:=by rfl)(hx:X.ex=[]:=by rfl)(hN:X.N.Nodup:=by trivial)(hi:X.N[i]?=kb n:=by rfl)
  (hk:X.env.scope.names.lookup n=kb .local:=by rfl) (hg:Gl X wn:=by rfl) (hdb:(wn==("__debug__":Str))=V1:=by decide) :
  PS X (.Try body [.ExceptHandler (kb (.Name wn wp)) (kb n) (b₀::suite) hp] [] [] pos) (Ve X.N.length i X.K W.C tb th):=by
 rintro pins s σ H D I ⟨E',h1,h2⟩;have up:∀ p∈X.pn++pins,p∈(X.pn++pins)++[]:=λ p hp=>by simpa using hp
 have dn:∀ p∈(X.pn++pins)++[],p∈X.pn++pins:=λ p hp=>by simpa using hp
 refine wpAny_Try_except (cv (hb E' (X.pn++pins) [] s σ H D (I.alike G8 I.ok.hd dn) h1) (λ f s1 h=>?_) λ e s1 h=>?_)
 ·cases f with
  | next =>obtain⟨σ',H',J,q⟩:=h;exact ml pins s1 σ' H' D (J.alike qN I.ok.hd up) q
  | brk=>obtain⟨σ',H',J,q⟩:=h;exact⟨σ',H',J.alike qN I.ok.hd up,q⟩
  | cont=>obtain⟨σ',H',J,q⟩:=h;exact⟨σ',H',J.alike qN I.ok.hd up,q⟩
  | ret u=>obtain⟨v,σ',H',J,r,q⟩:=h;exact⟨v,σ',H',J.alike qN I.ok.hd up,r,q⟩
 ·obtain⟨σ1,H1,a,cls,a0,rfl,J,fl,q⟩:=h
  have newJ:∀ {s2:hE} {σ2:St},Inv (X.pnC (X.pn++pins)) [] σ2 H1 s2->∀ b,s2.heap.get? b=My->H1 b=My/\¬ G7 X (X.pn++pins) b:=λ{s2 σ2} J2 b hb=>⟨J2.hok.new hb,λ z=>J2.old hx z hb⟩;have mineOk:∀ b,¬ G7 X (X.pn++pins) b->H1 b=My->H1 b=My/\(X.pnC (X.pn++pins)).s₀.heap.get? b=My/\b≠(X.pnC (X.pn++pins)).env.locals/\(∀ x c,(X.pnC (X.pn++pins)).env.cells.lookup x=kb c->c≠b)/\∀ p∈(X.pnC (X.pn++pins)).pn++[],p.1≠b:=λ b nb hb =>⟨hb,aJ λ z=>nb (.inl z),λ z=>nb (.inr (.inr (.inl z))),λ x c hc z=>nb (.inr (.inr (.inr ⟨x,z▸hc⟩))),λ p hp z=>nb (.inr (.inl ⟨p,dn p hp,z⟩))⟩
  have aOk:∀ {h:Heap},Fly (G7 X (X.pn++pins)) H1 h a cls a0->H1 a=My/\¬ G7 X (X.pn++pins) a/\isC a cls h:=λ{h} fl=>by obtain⟨oe,vs,T,oT,ts,k1,k2,k3,k4,k5,k6,k7,k8,k9,k10,k11,k12⟩:=fl.ex;exact⟨k10,λ z=>(k12 a z).1 rfl,oe,k1,k2⟩
  have frs1:(X.pnC (X.pn++pins)).stack=X.env::X.outer:=hst;have hA:X.A.frames=kb (X.env::X.outer):=by have:=I.ok.frames;rw[hst]at this;exact this
  have hF:s1.heap.FunFrames X.base (X.env::X.outer):=by have:=J.stack;rw[frs1]at this;exact this
  refine MV (L:=X.env.locals) hA hF hfr fl (newJ J) λ h3 T HT oT nt fl3=>?_;obtain⟨Ha,oa,_⟩:=aOk fl;have J3:Inv (X.pnC (X.pn++pins)) [] σ1 H1 {s1 with heap:=h3}:=J.xM (by rw[frs1];exact nt) λ b z=>by
   rcases z with z | z
   ·rw[z];exact mineOk a oa Ha
   ·rw[z];exact mineOk T oT HT
  obtain⟨_,_,ic3⟩:=aOk fl3;obtain⟨⟨C,rfl,sb⟩,h2⟩:=h2 cls a H1 q Ha;have K3:Inv (X.hdC a (X.pn++pins)) [] σ1 H1 {s1 with heap:=h3}:=J3.alike CF (λ z=>by cases z) λ p hp=>hp;refine wpAny_handleBy_cons (codeAny_handlers_test ?_) (by unfold byPass;intro z;cases z);refine r9 (X:=X.hdC a (X.pn++pins)) K3 hg W.m (G_ K3.kIn W ic3 sb ?_) hdb;dsimp only;rw[ae rfl];dsimp only;refine codeAny_handlers_suite_as ?_;refine G9 (l:=X.env::X.outer) (base:=X.base) (by have:=J3.stack;rw[frs1]at this;exact this) fl3 (newJ J3) λ h4 T4 HT4 oT4 nt4 fl4=>?_;have J4:Inv (X.pnC (X.pn++pins)) [] σ1 H1 {s1 with heap:=h4}:=J3.xM (s:={s1 with heap:=h3}) (by rw[frs1];exact nt4) λ b z=>by
   rcases z with z | z
   ·rw[z];exact mineOk a oa Ha
   ·rw[z];exact mineOk T4 oT4 HT4
  obtain⟨_,_,ic4⟩:=aOk fl4;obtain⟨_,m2,m3,m4,m5⟩:=mineOk a oa Ha;have J5:Inv (X.pnC (X.pn++pins)) [] σ1 (upd H1 a (.ext (isC a (.ref C)))) {s1 with heap:=h4}:=J4.QU Ha m2 m3 m4 m5 (QV ic4);have K5:Inv (X.hdC a (X.pn++pins)) [] σ1 (upd H1 a (.ext (isC a (.ref C)))) {s1 with heap:=h4}:=J5.alike CF (λ z=>by cases z) λ p hp=>hp;refine nR (X:=X.hdC a (X.pn++pins)) K5 hN hi (.inl hk) (v:=.ref a) rfl (λ s6 K6=>?_) (.inr hk);refine cv (hh a (X.pn++pins) [] s6 _ _ _ K6 (h2 σ1 J.len)) (λ f s7 h=>?_) λ e s7 h=>False.elim h;cases f with
  | next=>obtain⟨_,_,_,z⟩:=h;exact False.elim z
  | brk=>obtain⟨_,_,_,z⟩:=h;exact False.elim z
  | cont=>obtain⟨_,_,_,z⟩:=h;exact False.elim z
  | ret u =>obtain⟨v,σ7,H7,K7,r,z⟩:=h;have J7:Inv X pins σ7 H7 s7:=K7.alike Ku I.ok.hd up;exact Hb J7 hN hi hk λ s8 J8=>⟨v,_,H7,J8,r,z⟩
end
structure tI (k:Nat)(A:Around):Prop where
 dp:A.depth+3*k+5<recursionLimit
 un:A.units+16*k+200<cLine
theorem tI.deeper {k:Nat}{A:Around}(r:tI (k+1) A)(env:Env):tI k (A.deeper env) :=
 ⟨by have:=r.dp;show A.depth+1+3*k+5<_;lia,by have:=r.un;show A.units+3+16*k+200<_;lia⟩
theorem kN.toN {j k:Nat}{A:Around}(r:kN k A)(h:j<=k)(v:g6 g_):tI j (A.mark v):=⟨by have:=r.dp;show A.depth+3*j+5<_;lia,by have:=r.un;show A.units+16*j+200<_;lia⟩
theorem tI.units {k:Nat}{A:Around}(r:tI k A):A.units+2<cLine:=by have:=r.un;lia
structure Kv (P:Program)(w:World)(K:g9)(mg:gZ)(base:Heap)(k:Nat)(f:Addr)(fd:FuncData)(ps:List Str)(sp:Sp):Prop where
 len:∀ vs H Q E,sp vs H Q E->vs.length=ps.length
 run:∀ (A:Around) (outer:List Env) (s:hE) (H:Hp) (args:Args) (us:List g_) (vs:List V) (Q:VK) (E:XK),tI k A->Gn P w K mg base A outer s H->BindsTo s fd args (ps.zip us)->Vals vs us->sp vs H Q E ->
  codeAny (model P w) A (.call (.ref f) args) (CR CX0 outer P w H s Q E) s
def Cx.QY (X:Cx):Cx:={X with calm:=V1}
section
variable {P:Program}{w:World}{K:g9}{mg:gZ}{base:Heap}{x qual:Str}{st:Stmt}{f:Addr}{fd:FuncData}{N ps:List Str}{k:Nat}{sp:Sp}
theorem Fun.okN (F:Fun K x qual st f fd)(S:iL N ps (il st))(len:∀ vs H Q E,sp vs H Q E->vs.length=ps.length)
  (hbody:∀ (cdv:g_) (A:Around) (outer:List Env) (s:hE) (H:Hp) (vs:List V) (Q:VK) (E:XK),tI k (A.deeper (envOfC qual (il st) s.heap.objs.size f cdv))->sp vs H Q E ->
   ∃ t,PSs (se CX0 P w K mg base N qual (il st) f cdv A outer s H E).QY (kC st) t/\t {nx:=λ _ H'=>Q .non H',rt:=Q} (start N vs) H):Kv P w K mg base (k+1) f fd ps sp:=by
 obtain⟨oc,od,kV,doc,pm,an,cdv,ct,osl,rfl,lk,hcd⟩:=F.ex;refine⟨len,λ A outer s H args us vs Q E hr e0 hb r hsp=>?_⟩;have hl:=len _ _ _ _ hsp;have KX:K.In s.heap:=e0.mod.kin.keeps λ b o e=>(e0.bs b o e).1;have lim:s.heap.NoLimit:=e0.mod.nolimit.keeps λ b o e=>(e0.bs b o e).1;have hkind:∀ y∈ps.zip us,(il st).names.lookup y.1=kb .local\/((il st).names.lookup y.1=kb .cell/\((cellsFrom (s.heap.objs.size+1) (il st).names []).lookup y.1).isSome=V0):=λ⟨n,v⟩ hy=>by
  rcases S.par n (ee hy).1 with q | q
  ·exact .inl q
  ·exact .inr ⟨q,fe _ _ _ (.inl q)⟩
 refine codeAny_call_function (by have:=hr.dp;lia) (KX _ _ lk) rfl S.co S.gen rfl (PySem.W.codeRec_of KX hcd) (hb _ _ _ _ ?_);refine wpAny_newFunctionEnv_cells S.kind hkind λ env he s1 x=>?_;subst he;refine⟨lim.keeps x.toInCall.keep,codeAny_func ?_⟩;obtain⟨t,ht,hq⟩:=hbody cdv A outer s H vs Q E (hr.deeper _) hsp;have e1:Gn P w K mg base {A with handled:=My} outer s H:=⟨e0.frames,e0.mod,e0.bs,e0.bsz,e0.tQ,e0.frf,e0.hok,e0.bare⟩;have I0:Inv (se CX0 P w K mg base N qual (il st) f cdv {A with handled:=My} outer s H E) [] (start N vs) H s1:=yT S rfl e1 hl r x;have I:Inv (se CX0 P w K mg base N qual (il st) f cdv A outer s H E).QY [] (start N vs) H s1:=Inv.alike (X:=se CX0 P w K mg base N qual (il st) f cdv {A with handled:=My} outer s H E) ⟨rfl,rfl,rfl,rfl,rfl,rfl,rfl,rfl,rfl,rfl,rfl,rfl,rfl,rfl⟩ I0 (λ z=>by cases z) λ p hp=>hp;refine cv (ht [] s1 (start N vs) H _ I hq) (λ fl s' hs=>?_) λ e s' hs=>hs;have fin:∀ {σ':St} {H':Hp} {v:V} {u:g_},Inv (se CX0 P w K mg base N qual (il st) f cdv A outer s H E).QY [] σ' H' s'->RelV v u->Q v H'->CE outer P w H s Q u s' :=
  λ{σ' H' v u} J rv q=>⟨v,H',J.os,J.bare,J.base,J.hok,rv,q⟩
 cases fl with
 | ret u =>obtain⟨v,σ',H',J,rv,q⟩:=hs;exact fin J rv q
 | next =>obtain⟨σ',H',J,q⟩:=hs;exact fin (v:=V.non) (u:=Value.none) J rfl q
 | brk =>obtain⟨_,_,_,q⟩:=hs;exact False.elim q
 | cont =>obtain⟨_,_,_,q⟩:=hs;exact False.elim q
theorem Fun.okE (F:Fun K x qual st f fd)(S:iL N ps (il st))(len:∀ vs H Q E,sp vs H Q E->vs.length=ps.length)
  (hbody:∀ (cdv:g_) (A:Around) (outer:List Env) (s:hE) (H:Hp) (vs:List V) (Q:VK) (E:XK),kN k (A.deeper (envOfC qual (il st) s.heap.objs.size f cdv))->sp vs H Q E ->
   ∃ t,PSs (cxE P w K mg base N qual (il st) f cdv A outer s H E) (kC st) t/\t {nx:=λ _ H'=>Q .non H',rt:=Q} (start N vs) H):oJ P w K mg base (CXE P w) (k+1) f fd ps sp:=by
 obtain⟨oc,od,kV,doc,pm,an,cdv,ct,osl,rfl,lk,hcd⟩:=F.ex;exact NF lk hcd S len λ A outer s H vs Q E hr hsp=>hbody cdv A outer s H vs Q E hr hsp
end
section
variable {X:Cx}{e:Expr}{es:List Expr}{pos p:Pos}{x:Str}{st:Stmt}{j k n:Nat}{ps:List Str}
theorem pCN {sp:Sp}{t:TA}(T:FnT X.K X.mg x st ps)(F:Kv X.prog X.w X.K X.mg X.base k T.f T.fd ps sp)(hr:tI k X.A)(ha:PA X (e::es) t)(hg:Gl X x:=by rfl)(hdb:(x==("__debug__":Str))=V1:=by decide)(he:starEach (e::es) X.env=(V1,eval e X.env)::starEach es X.env:=by rfl)(hpl:(backTo pos (starEach es X.env)).any (·.1)=V1:=by rfl) :
  PE X (.Call (.Name x p) (e::es) [] pos) (mf sp [] E0 t):=by
 intro pins s σ H Q I h;refine eX (r9 I hg T.m ?_ hdb);refine PySem.W.callWith_K (h₀:=X.base) I.ok.mod.kin T.F.kp (thn (ha pos pins s σ H _ I h) λ us s1 ⟨vs,H1,I1,r,q⟩=>⟨I1.kIn,?_⟩) he hpl;have q:sp vs H1 Q E0:=by have q:sp (vs++[]) H1 Q E0:=q;rwa [bH]at q
 have hl:(us++[]).length=ps.length:=by rw[bH,<-r.length];exact F.len _ _ _ _ q
 refine wpAny_call (codeAny_mono (F.run X.A X.stack s1 H1 ⟨us,[]⟩ us vs Q E0 hr I1.RB (by have:=T.b s1 us I1.kIn hl;rwa [bH]at this) r q) λ r s' hq=>?_);cases r with
 | error e=>exact False.elim hq
 | ok fl =>
  cases fl with
  | ret u=>exact I1.after hq
  | next=>exact False.elim hq
  | brk=>exact False.elim hq
  | cont=>exact False.elim hq
theorem pCT {E':XK}{pn:hJ}{sp:Sp}{t:TA}(T:FnT X.K X.mg x st ps)(F:oJ X.prog X.w X.K X.mg X.base (CXE X.prog X.w) k T.f T.fd ps sp)(hr:kN j X.A)(ha:PA (X.CD E' pn) (e::es) t)(hx:X.ex=[]:=by rfl)(hj:k<=j:=by decide)(hg:Gl X x:=by rfl)(hdb:(x==("__debug__":Str))=V1:=by decide)(he:starEach (e::es) X.env=(V1,eval e X.env)::starEach es X.env:=by rfl)(hpl:(backTo pos (starEach es X.env)).any (·.1)=V1:=by rfl) :
  PE (X.CD E' pn) (.Call (.Name x p) (e::es) [] pos) (mf sp [] E' t):=zR (X:=X.CD E' pn) F (hr.mono hj) hg T.m T.F.kp T.b .nil (QT rfl rfl hx) ha hdb he hpl
end
end L2
namespace HT
open PySem PySem.Spec PyProof.Rows
variable {prog:Program}{w:World}{A:Around}{E:g0}{s:hE}
theorem rN {t sl:Addr}{items:Array g_}{vl vu:g_}{lo hi:g6 Int}{Q:g0}(ht:IsTup s.heap t items)(hs:s.heap.IsSliceOf sl vl vu .none)(pl:IsPart vl lo)(pu:IsPart vu hi)
  (h1:sIx items.size 0 lo=0) (h2:sIx items.size items.size hi=items.size)
  (h:Q (.ref t) s):wpAny (model prog w) A (getItem (.ref t) (.ref sl)) Q E s:=by
 obtain⟨os,hos,hcs,hds⟩:=id hs;have hTs:s.TypeIs (.ref sl) "slice":=⟨os,hos,hcs⟩;unfold getItem;try with_reducible refine bT ?_
 first | refine aa (ah ?_) | skip
 refine aa (wpAny_sequenceKey ht.typeIs (by decide) ?_);refine aa (bS (name:=Str.ofString "__getitem__") ht.typeIs bQ
  (bV bQ ht.typeIs entry_tuple_getitem ?_ (args_tuple_getitem _ _)))
 show wpAny _ _ (Builtin.Tuple.tupleItemsOf (.ref t)>>=_) _ _ s;refine aa (tupleItemsOf_ ht ?_);refine aa (fU hTs ?_);rw[ae (by decide)];refine aa (nX hs pl pu ?_);show wpAny _ _ (if (((sIx items.size 0 lo:Nat):Int)==0&&(1:Int)==1&&(sIx items.size items.size hi-sIx items.size 0 lo)==items.size)=V0 then _ else _) _ _ s;rw[ae (by rw[h1,h2];simp)];refine aa (m:=Builtin.Tuple.tupleIsExact _) (aa (fU ht.typeIs (ah ?_)));rw[ae (by decide)];refine aa (fu ?_);exact ah ⟨_,rfl,ah h⟩
end HT
namespace L2
open PySem PySem.Spec PyProof.Rows Zp Qs
variable {X:Cx}
def Vf (K:g9):V->g6 Int->g6 Int->Hp->VK->Prop:=λ x lo hi H Q=>∃ a xs,x=.ref a/\SqT K H a xs /\
 (HT.sIx xs.length 0 lo=0/\HT.sIx xs.length xs.length hi=xs.length)/\Q (.ref a) H
theorem MX:SlR X (Vf X.K):=by
 intro pins s σ H x v vl vu lo hi sl Q I rx hs pl pu h;obtain⟨a,xs,rfl,hx,hw,q⟩:=h;cases rx;obtain⟨its,r,ht,hz⟩:=I.tuple hx;have hlen:its.toArray.size=xs.length:=by rw[aC];exact r.length.symm
 refine⟨"tuple",_,bQ.lookup,ht.typeIs,?_⟩;exact HT.rN ht hs pl pu (by rw[hlen];exact hw.1) (by rw[hlen];exact hw.2) ⟨.ref a,H,I,rfl,q⟩
def Kw:Dt->g6 Dt
 | .tup ds=>kb (.tup ds.tail)
 | _=>My
def Eg (g:DE->g6 Dt):DE->g6 Dt:=λ δ=>(g δ).bind Kw
theorem MY {ga:DE->g6 Dt}{j:Nat}{p p2 pos:Pos}{a:Expr}(ha:PD X a ga):PD X (.Subscript a (.Slice (kb (.Constant (.int 1) j p)) My My p2) pos) (Eg ga) :=
 (Bl (O7.or MX) ha (EY (iS (i:=1))) EX).of λ σ H Q hz1=>by
  obtain⟨δ,d,S,e,q⟩:=hz1;obtain⟨x,e1,e2⟩:=hZ e;match x,e1,e2 with
  | .tup [],e1,e2 =>cases e2;refine⟨δ,_,S,e1,λ v H1 s1 i1=>?_⟩;obtain⟨p,xs,rfl,hp,is⟩:=i1.iR;cases is;exact⟨1,rfl,.inr ⟨p,[],rfl,hp,⟨rfl,rfl⟩,q _ _ s1 i1⟩⟩
  | .tup (d0::ds),e1,e2 =>
   cases e2;refine⟨δ,_,S,e1,λ v H1 s1 i1=>?_⟩;obtain⟨p,xs,rfl,hp,is⟩:=i1.iR;cases is with
   | cons i1 i2 =>
    refine⟨1,rfl,.inl ⟨p,_,rfl,hp,?_,λ p' hp'=>?_⟩⟩
    ·rintro⟨z,_⟩;have z:HT.sIx _ 0 (kb ((1:Nat):Int))=0:=z;rw[HT.zS]at z;simp at z
    ·refine q _ _ (s1.trans (iA.upd hp')) (.tup (SqT.of ir) ?_);rw[GL];exact i2.ext (iA.upd hp')
def lE:List Dt->g6 Dt
 | [x]=>(dTt x).bind λ l=>if l.length<=1000 then kb (.bl (rise l)) else My
 | _=>My
def oZ:DE->g6 RD:=(jk (ju Jl (hU (gLC ["one","following"] [] (GP V0 V0 (hU (hW 0) (hU (Eg (hW 0)) hX))) (kW 0 1) jL (iG Jc (hW 0) (hW 1))) hX)))
set_option tactic.hygienic true in
theorem yH:Hg 1 BX lE oZ:=by
 intro ds d hl h;match ds,h with
 | [x],h =>
  obtain⟨l,e1,h⟩:=hZ (show(dTt x).bind _=_ from h);split at h
  ·rename_i hc
   cases h;rw[sV e1];refine⟨.rt (.bl (rise l)),?_,rfl⟩;have lc:=kz (enc:=λ pq:(Nat×Nat)×(Nat×Nat)=>Dt.tup [iq pq.1,iq pq.2]) (gg:=kW 0 1) (ge:=iG Jc (hW 0) (hW 1)) (δc:=[My,My]) (δa:=λ pq=>[kb (iq pq.1),kb (iq pq.2)]) (enc':=λ pq=>.bl (mS pq.1 pq.2)) (l.zip l.tail) λ a _=>⟨rfl,by simp[iq,h_,Jc,kn,yw,mS]⟩
   have ez:=Mi l;have e2:(l.zip l.tail).map (λ pq=>Dt.bl (mS pq.1 pq.2))=((l.zip l.tail).map λ pq=>mS pq.1 pq.2).map Dt.bl:=by simp
   rw[e2]at lc;have e3:((l.zip l.tail).map λ pq=>mS pq.1 pq.2).all id=rise l:=by simp[rise,gK,dU]
   have e4:(l.zip l.tail).length<=1000:=by rw[gN];lia
   have e6:IV V0 V0 [jq l,.tup (l.tail.map iq)]=kb ((l.zip l.tail).map λ pq=>Dt.tup [iq pq.1,iq pq.2]):=by rw[<-ez];rfl
   have e7:Kw (jq l)=kb (.tup (l.tail.map iq)):=by rw[List.map_tail];rfl
   generalize (l.zip l.tail).map (λ pq=>mS pq.1 pq.2)=bs at lc e3;generalize hzs:(l.zip l.tail).map (λ pq=>Dt.tup [iq pq.1,iq pq.2])=zs at lc e6;have e8:zs.length<=1000:=by rw[<-hzs,ak];exact e4
   rw[show l.tail.map iq=(l.map iq).tail from by simp]at e6 e7;simp[oZ,Eg,e7,e6,e8,lc,e3]
  ·cases h
def wfB (w:Nat×hG):Bool:=decide (2<=w.1/\w.1<=8)&&(w.2.all λ p=>decide (p.1<p.2/\p.2<w.1))&&rise w.2&&decide (w.2.length<=30)
theorem AQ (w:Nat×hG):wfB w=V0↔(2<=w.1/\w.1<=8)/\(∀ p∈w.2,p.1<p.2/\p.2<w.1)/\rise w.2=V0/\w.2.length<=30:=by unfold wfB;simp only[bJ,decide_eq_true_eq,dk,and_assoc]
def dWf (d:Dt):g6 Web:=(w9 d).bind (Mg λ x y=>(ja x).bind λ n=>(dTt y).bind λ l=>if wfB (n,l)=V0 then kb (n,l) else My)
theorem MZ {d:Dt}{w:Web}(h:dWf d=kb w):d=ip w/\wfB w=V0:=by
 obtain⟨l,e0,h⟩:=hZ h;obtain⟨x,y,rfl,h⟩:=xa h;obtain⟨a,e1,h⟩:=hZ h;obtain⟨b,e2,h⟩:=hZ h;by_cases hg:wfB (a,b)=V0
 ·rw[ae hg]at h;cases h;rw[mP e0,jd e1,sV e2];exact⟨rfl,hg⟩
 ·rw[ag hg]at h;cases h
theorem F3 {w:Web}(h:wfB w=V0):dWf (ip w)=kb w:=by show(ja (h_ w.1)).bind (λ n=>(dTt (jq w.2)).bind λ l=>if wfB (n,l)=V0 then kb (n,l) else My)=_;rw[iY,sW,af,af,ae h]
def mH:List Dt->g6 Dt
 | [x]=>(dWf x).map λ w=>.bl (decide ((bfs w.2 0).length=w.1))
 | _=>My
def uD:DE->g6 RD:=(i_ (lJ (pU (kr (gTr (ju yA (hU (hW 0) (hU (gC (.ty "tuple")) hX))))) (gB (iG lK (ju qV (hU (hW 0) hX)) (gC (.int 2))))) (jk (gC (.bl V1))) j5) (i_ (sH (kW 1 2) (hW 0)) (i_ (lJ (pU (kr (gTr (ib 1 mR (hU (hW 1) hX)))) (kr (gB (uc (dIB λ i j=>decide (i<=j)) (dIB λ i j=>decide (i<=j)) (gC (.int 2)) (hW 1) (gC (.int 8)))))) (jk (gC (.bl V1))) j5) (i_ (lJ (pU (kr (gTr (ju yA (hU (hW 2) (hU (gC (.ty "tuple")) hX))))) (kr (gTr (ju Jl (hU (gLC ["tie"] [1] (gI kx (hW 2)) (ggN 0) jL (ib 2 kQ (hU (hW 1) (hU (hW 0) hX)))) hX))))) (jk (gC (.bl V1))) j5) (jk (wV (ib 1 lE (hU (hW 2) hX)) (iG kX (ju Jj (hU (ib 2 nC (hU (hW 2) (hU (gC (.int 0)) hX))) hX)) (hW 1))))))))
theorem Eh:Hg 1 Jt mH uD:=by
 intro ds d hl h;match ds,h with
 | [x],h =>
  obtain⟨w,e1,h⟩:=iP (show(dWf x).map _=_ from h);subst h;obtain⟨rfl,hg⟩:=MZ e1;obtain⟨⟨h2,h8⟩,ok,ri,h30⟩:=(AQ w).mp hg;refine⟨.rt (.bl (decide ((bfs w.2 0).length=w.1))),?_,rfl⟩;have lc:=kz (enc:=iq) (gg:=ggN 0) (ge:=ib 2 kQ (hU (hW 1) (hU (hW 0) hX))) (δc:=[My,kb (h_ w.1)]) (δa:=λ t=>[kb (iq t),kb (h_ w.1)]) (enc':=λ _=>.bl V0) w.2 λ a ha=>⟨rfl,by
   have:=ok a ha;have h1:((a.1:Int)<w.1):=by lia
   have h2:((a.2:Int)<w.1):=by lia
   have h3:((a.1:Int)<a.2):=by lia
   simp[iq,h_,h1,h2,h3]⟩
  have e3:(w.2.map λ _=>Dt.bl V0)=(w.2.map λ _=>V0).map Dt.bl:=by simp
  rw[e3]at lc;have e4:(w.2.map λ _=>V0).all id=V0:=by simp
  generalize (w.2.map λ _=>V0)=bs at lc e4;have e5:lE [jq w.2]=kb (.bl V0):=by show(dTt (jq w.2)).bind _=_;rw[sW,af,ae (by lia),ri]
  have e6:nC [jq w.2,h_ 0]=kb (.dct (kd (bfs w.2 0))):=by show(dTs (jq w.2)).bind (λ l=>(ja (h_ 0)).bind λ p=>if l.length<=30 then kb (Dt.dct (kd (bfs l p))) else My)=_;rw[Aj,iY,af,af,ae h30]
  have e7:(kd (bfs w.2 0)).length=(bfs w.2 0).length:=by rw[kd,ak]
  have h2:(2:Int)<=w.1:=by lia
  have h8:(w.1:Int)<=8:=by lia
  have h30:w.2.length<=1000:=by lia
  have e6:nC [Dt.tup (w.2.map iq),Dt.int 0]=kb (.dct (kd (bfs w.2 0))):=e6;have e5:lE [Dt.tup (w.2.map iq)]=kb (.bl V0):=e5;have e8:(((bfs w.2 0).length:Int)==(w.1:Int))=decide ((bfs w.2 0).length=w.1):=by rw[mT];rfl
  simp only[h_]at lc;simp[uD,ip,h_,h2,h8,lc,e4,e5,e6,e7,h30,e8]
theorem Hc {ds:List Dt}{d:Dt}(h:sY ds=kb d):mH ds=kb d:=by
 match ds,h with
 | [x],h =>obtain⟨w,e1,h⟩:=iP (show(dW x).map _=_ from h);subst h;obtain⟨rfl,g⟩:=kf e1;show(dWf (ip w)).map _=_;rw[F3 ((AQ w).mpr ⟨⟨g.two,g.kg⟩,g.ok,g.rise,g.len⟩)];rw[cq,decide_eq_true g.all]
abbrev nH:=nG
def qi:List Dt->g6 Dt
 | [x,y]=>(dQ x).bind λ a=>(dQ y).bind λ b=>if sm a/\sm b then kb (.bl (decide (b<=a))) else My
 | _=>My
def vd:DE->g6 RD:=(jk (ib 2 zm (hU (iG (dI (·-·)) (iG pL (iG dIx (hW 0) (gC (.int 0))) (iG dIx (hW 1) (gC (.int 1)))) (iG pL (iG dIx (hW 1) (gC (.int 0))) (iG dIx (hW 0) (gC (.int 1))))) (hU (iG pL (iG dIx (hW 0) (gC (.int 1))) (iG dIx (hW 1) (gC (.int 1)))) hX))))
abbrev CG:List Str:=["_law_one","_law_other"]
theorem AR:Hg 2 CG nH vd:=Cw
theorem Kx (a b:Rat):decide (b.num*a.den<=a.num*b.den)=decide (b<=a):=by rw[bj,decide_eq_true_iff,decide_eq_true_iff];exact(Rat.le_iff (a:=b) (b:=a)).symm
section
variable {w:Web}(g:Good w)
include g
end
section
variable {w wt:Web}(g:Good w)
include g
end
theorem Ky {w:Web}(g:Good w){a b:Nat}(ha:a<w.1)(hb:b<w.1)(ne:a≠b):j_ [ip w,h_ a,h_ b]=kb (iF (hiQ w a b)):=by show(dW (ip w)).bind (λ w=>(ja (h_ a)).bind λ a=>(ja (h_ b)).bind λ b=>if a<w.1/\b<w.1/\a≠b then kb (iF (hiQ w a b)) else My)=_;rw[j7 g,iY,iY,af,af,af,ae ⟨ha,hb,ne⟩]
def r0:DE->g6 RD:=(jW 4 (ib 3 j_ (hU (hW 1) (hU (hW 2) (hU (hW 3) hX)))))
def r1:DE->g6 RD:=(jW 5 (ib 2 B3 (hU (iG dIx (ib 2 nE (hU (hW 1) (hU (hW 3) hX))) (hW 2)) (hU (iG dIx (ib 2 nE (hU (hW 1) (hU (hW 2) hX))) (hW 3)) hX))))
def r2:DE->g6 RD:=(lJ (pU (gB (iG lK (hW 5) (ib 2 Al (hU (jE (hU (iG pL (gC (.int 2)) (ju qV (hU (iG dIx (hW 1) (gC (.int 1))) hX))) (hU (gC (.int 1)) hX))) (hU (hW 4) hX))))) (gB (iG lK (hW 4) (ib 3 j_ (hU (hW 1) (hU (hW 3) (hU (hW 2) hX))))))) (jk (gC (.bl V1))) j5)
def r3:DE->g6 RD:=(jW 6 (ib 3 Ki (hU (hW 1) (hU (hW 2) (hU (hW 3) hX)))))
def r4:DE->g6 RD:=(lJ (pU (gB (iG Jb (ib 4 qg (hU (hW 1) (hU (hW 2) (hU (hW 3) (hU (hW 6) hX))))) (gC (.bl V0)))) (pU (gB (iG lK (ib 4 Ee (hU (hW 1) (hU (hW 2) (hU (hW 3) (hU (hW 6) hX))))) (hW 4))) (gB (iG lK (iG dIx (ib 3 mG (hU (hW 1) (hU (hW 2) (hU (hW 3) hX)))) (hW 2)) (hW 4))))) (jk (gC (.bl V1))) j5)
def r5:DE->g6 RD:=(jW 7 (ib 3 CA (hU (hW 1) (hU (hW 2) (hU (hW 3) hX)))))
def r6:DE->g6 RD:=(lJ (pU (gB (iG lK (ib 4 FZ (hU (hW 1) (hU (hW 2) (hU (hW 3) (hU (hW 7) hX))))) (jE (hU (hW 4) (hU (hW 4) hX))))) (gB (iG Jb (ib 4 xJ (hU (hW 1) (hU (hW 2) (hU (hW 3) (hU (hW 7) hX))))) (gC (.bl V0))))) (jk (gC (.bl V1))) j5)
def r10:DE->g6 RD:=(sH (kW 10 11) (ib 4 FZ (hU (hW 1) (hU (hW 2) (hU (hW 3) (hU (jE (hU (hW 9) (hU (ju lP (hU (hW 8) hX)) hX))) hX))))))
def r11:DE->g6 RD:=(lJ (pU (kr (gTr (ib 2 qi (hU (hW 4) (hU (hW 10) hX))))) (pU (kr (gTr (ib 2 qi (hU (hW 11) (hU (hW 4) hX))))) (gB (iG lK (hW 11) (ib 4 Ee (hU (hW 1) (hU (hW 2) (hU (hW 3) (hU (hW 9) hX))))))))) (jk (gC (.bl V1))) j5)
def r12:DE->g6 RD:=(jk (gOr (iG kX (hW 9) (hW 6)) (iG lK (hW 11) (hW 4))))
section
variable {w:Web}(g:Good w){a b:Nat}(ha:a<w.1)(hb:b<w.1)(ne:a≠b)
include g ha hb ne
end
def jH (w:Web)(t:Nat×Nat):Bool:=(decide (t.1<w.1)&&(decide (t.2<w.1)&&decide (t.1<t.2)))&&!decide (t∈w.2)
theorem oB {w:Web}{t:Nat×Nat}:jH w t=V0↔t.1<t.2/\t.2<w.1/\t∉w.2:=by unfold jH;simp only[bJ,decide_eq_true_eq,gz,decide_eq_false_iff_not];exact⟨λ⟨⟨_,h2,h3⟩,h4⟩=>⟨h3,h2,h4⟩,λ⟨h1,h2,h3⟩=>⟨⟨by lia,h2,h1⟩,h3⟩⟩
def prL (w:Web):hG:=(V2 w.1).flatMap λ a=>(V2 w.1).map λ b=>(a,b)
def nI (w:Web):hG:=(prL w).filter (jH w)
theorem uE {w:Web}{t:Nat×Nat}:t∈nI w↔jH w t=V0:=by unfold nI prL;rw[aT,gH];refine⟨λ h=>h.2,λ h=>⟨⟨t.1,?_,aE.mpr ⟨t.2,?_,rfl⟩⟩,h⟩⟩<;>(obtain⟨h1,h2,_⟩:=oB.mp h;rw[ay];lia)
def j8 (w:Web)(a b:Nat):g6 (Nat×Nat)->Rat
 | none=>meQ w b a
 | some t=>meQ (jb w t) b a
def jg (w:Web)(a b:Nat)(best:g6 (Nat×Nat))(t:Nat×Nat):g6 (Nat×Nat):=if meQ (jb w t) b a<j8 w a b best then kb t else best
def jP (w:Web)(a b:Nat):g6 (Nat×Nat):=(nI w).foldl (jg w a b) My
def kR:g6 (Nat×Nat)->Dt
 | none=>.non
 | some t=>iq t
def qO:List Dt->g6 Dt
 | [x,y]=>(dQ x).bind λ a=>(dQ y).bind λ b=>if sm a/\sm b then kb (.bl (decide (a<b))) else My
 | _=>My
def jM:List Dt->g6 Dt
 | [x,y]=>(dQ x).bind λ a=>(dQ y).bind λ b=>if sm a/\sm b then kb (.bl (decide (a<=b))) else My
 | _=>My
def kY:List Dt->g6 Dt
 | [x,y,z]=>(dW x).bind λ w=>(ja y).bind λ a=>(ja z).bind λ b=>if a<w.1/\b<w.1 then kb (iF (meQ w b a)) else My
 | _=>My
def qP:List Dt->g6 Dt
 | [x,y,z]=>(ja x).bind λ n=>(dTt y).bind λ l=>(dNP z).bind λ t=>if l≠[]/\l.length<60 then kb (ip (n,mW (l++[t]))) else My
 | _=>My
def mI:List Dt->g6 Dt
 | [x,y]=>(dW x).bind λ w=>(dNP y).map λ t=>.bl (jH w t)
 | _=>My
def nJ:List Dt->g6 Dt
 | [x]=>(dW x).map λ w=>.lst ((nI w).map iq)
 | _=>My
def lR:List Dt->g6 Dt
 | [x,y]=>(dW x).bind λ w=>(dNP y).bind λ t=>if jH w t=V0 then kb (ip (jb w t)) else My
 | _=>My
def rO:List Dt->g6 Dt
 | [x,y,z,u]=>(dW x).bind λ w=>(ja y).bind λ a=>(ja z).bind λ b=>(dNP u).bind λ t=>if a<w.1/\b<w.1/\jH w t=V0 then kb (iF (meQ (jb w t) b a-meQ w b a)) else My
 | _=>My
def o6:List Dt->g6 Dt
 | [x,y,z]=>(dW x).bind λ w=>(ja y).bind λ a=>(ja z).bind λ b=>if a<w.1/\b<w.1/\a≠b then kb (kR (jP w a b)) else My
 | _=>My
theorem QZ {x y:Rat}(hx:sm x)(hy:sm y):qO [iF x,iF y]=kb (.bl (decide (x<y))):=by show(dQ (iF x)).bind (λ a=>(dQ (iF y)).bind λ b=>if sm a/\sm b then kb (Dt.bl (decide (a<b))) else My)=_;rw[rE,rE,af,af,ae ⟨hx,hy⟩]
theorem Oy {x y:Rat}(hx:sm x)(hy:sm y):jM [iF x,iF y]=kb (.bl (decide (x<=y))):=by show(dQ (iF x)).bind (λ a=>(dQ (iF y)).bind λ b=>if sm a/\sm b then kb (Dt.bl (decide (a<=b))) else My)=_;rw[rE,rE,af,af,ae ⟨hx,hy⟩]
section
variable {w:Web}(g:Good w)
include g
theorem F4 {a b:Nat}(ha:a<w.1)(hb:b<w.1):kY [ip w,h_ a,h_ b]=kb (iF (meQ w b a)):=by show(dW (ip w)).bind (λ w=>(ja (h_ a)).bind λ a=>(ja (h_ b)).bind λ b=>if a<w.1/\b<w.1 then kb (iF (meQ w b a)) else My)=_;rw[j7 g,iY,iY,af,af,af,ae ⟨ha,hb⟩]
theorem OA (t:Nat×Nat):mI [ip w,iq t]=kb (.bl (jH w t)):=by show(dW (ip w)).bind (λ w=>(dNP (iq t)).map λ t=>Dt.bl (jH w t))=_;rw[j7 g,oU];rfl
theorem SJ:nJ [ip w]=kb (.lst ((nI w).map iq)):=by show(dW (ip w)).map (λ w=>Dt.lst ((nI w).map iq))=_;rw[j7 g];rfl
theorem Kz {t:Nat×Nat}(h:jH w t=V0):lR [ip w,iq t]=kb (ip (jb w t)):=by show(dW (ip w)).bind (λ w=>(dNP (iq t)).bind λ t=>if jH w t=V0 then kb (ip (jb w t)) else My)=_;rw[j7 g,oU,af,af,ae h]
theorem KA {a b:Nat}(ha:a<w.1)(hb:b<w.1){t:Nat×Nat}(h:jH w t=V0):rO [ip w,h_ a,h_ b,iq t]=kb (iF (meQ (jb w t) b a-meQ w b a)):=by show(dW (ip w)).bind (λ w=>(ja (h_ a)).bind λ a=>(ja (h_ b)).bind λ b=>(dNP (iq t)).bind λ t=>if a<w.1/\b<w.1/\jH w t=V0 then kb (iF (meQ (jb w t) b a-meQ w b a)) else My)=_;rw[j7 g,iY,iY,oU,af,af,af,af,ae ⟨ha,hb,h⟩]
theorem SK {a b:Nat}(ha:a<w.1)(hb:b<w.1)(ne:a≠b):o6 [ip w,h_ a,h_ b]=kb (kR (jP w a b)):=by show(dW (ip w)).bind (λ w=>(ja (h_ a)).bind λ a=>(ja (h_ b)).bind λ b=>if a<w.1/\b<w.1/\a≠b then kb (kR (jP w a b)) else My)=_;rw[j7 g,iY,iY,af,af,af,ae ⟨ha,hb,ne⟩]
theorem Good.l8 {t:Nat×Nat}(h:jH w t=V0):Good (jb w t):=by obtain⟨h1,h2,h3⟩:=oB.mp h;exact g.add h1 h2 h3
theorem Good.xN {b:Nat}(hb:b<w.1)(i:Nat):sm (meQ w b i):=Ke (g.Cu hb i) (by decide)
end
def uF:DE->g6 RD:=(jk (iG (dIB λ i j=>decide (i<j)) (iG pL (iG dIx (hW 0) (gC (.int 0))) (iG dIx (hW 1) (gC (.int 1)))) (iG pL (iG dIx (hW 1) (gC (.int 0))) (iG dIx (hW 0) (gC (.int 1))))))
abbrev Hd:List Str:=["one","other"]
def m7:DE->g6 RD:=(jk (iG (dIB λ i j=>decide (i<=j)) (iG pL (iG dIx (hW 0) (gC (.int 0))) (iG dIx (hW 1) (gC (.int 1)))) (iG pL (iG dIx (hW 1) (gC (.int 0))) (iG dIx (hW 0) (gC (.int 1))))))
abbrev xO:List Str:=["_law_one","_law_other"]
theorem KC (a b:Rat):decide (a.num*b.den<b.num*a.den)=decide (a<b):=by rw[bj,decide_eq_true_iff,decide_eq_true_iff];exact(Rat.lt_iff (a:=a) (b:=b)).symm
theorem Ei:Hg 2 Hd qO uF:=by
 intro ds d hl h;match ds,h with
 | [x,y],h =>
  obtain⟨a,e1,h⟩:=hZ (show(dQ x).bind _=_ from h);obtain⟨b,e2,h⟩:=hZ h;by_cases hc:sm a/\sm b
  ·rw[ae hc]at h;cases h;rw[ui e1,ui e2];obtain⟨ha,hb⟩:=hc;have a1:=pH ha.1;have b1:=pH hb.1;have a2:bd (a.den:Int):=pH (by simpa using ha.2);have b2:bd (b.den:Int):=pH (by simpa using hb.2);refine⟨.rt (.bl (decide (a<b))),?_,rfl⟩;rw[<-KC];simp only[uF,iF,jk,ib,hU,iG,hW,gC,hX,oP,au,eE,aW,cP,fH,cC,bG,gG,af,dIx,P2,P4,dIC,dIB,a1,b1,a2,b2,and_self,cJ,cq]
  ·rw[ag hc]at h;cases h
theorem vF:Hg 2 xO jM m7:=by
 intro ds d hl h;match ds,h with
 | [x,y],h =>
  obtain⟨a,e1,h⟩:=hZ (show(dQ x).bind _=_ from h);obtain⟨b,e2,h⟩:=hZ h;by_cases hc:sm a/\sm b
  ·rw[ae hc]at h;cases h;rw[ui e1,ui e2];obtain⟨ha,hb⟩:=hc;have a1:=pH ha.1;have b1:=pH hb.1;have a2:bd (a.den:Int):=pH (by simpa using ha.2);have b2:bd (b.den:Int):=pH (by simpa using hb.2);refine⟨.rt (.bl (decide (a<=b))),?_,rfl⟩;rw[<-Kx b a];simp only[m7,iF,jk,ib,hU,iG,hW,gC,hX,oP,au,eE,aW,cP,fH,cC,bG,gG,af,dIx,P2,P4,dIC,dIB,a1,b1,a2,b2,and_self,cJ,cq]
  ·rw[ag hc]at h;cases h
def rP:DE->g6 RD:=(i_ (lL (ib 1 jF (hU (hW 0) hX))) (i_ (lL (ib 2 jG (hU (hW 0) (hU (hW 1) hX)))) (jk (iG dIx (ib 2 nE (hU (hW 0) (hU (hW 2) hX))) (hW 1)))))
abbrev Ej:List Str:=["web","a","b"]
def uH:DE->g6 RD:=(jk (jE (hU (hW 0) (hU (ju lP (hU (ju xk (hU (iG Jp (hW 1) (jE (hU (hW 2) hX))) hX)) hX)) hX))))
abbrev He:List Str:=["many","ties","tie"]
def uI:DE->g6 RD:=(jk (wV (ib 2 kQ (hU (iG dIx (hW 0) (gC (.int 0))) (hU (hW 1) hX))) (iG (dIn V0) (hW 1) (iG dIx (hW 0) (gC (.int 1))))))
abbrev Hf:List Str:=["web","thing"]
def nK:DE->g6 RD:=(i_ (jW 1 (iG dIx (hW 0) (gC (.int 0)))) (i_ (jW 2 (JY ["a","b"] [1] (nA (hU (hW 1) hX)) (ggN 0) jL (nA (hU (hW 2) hX)) (ggN 1) jL (jE (hU (hW 0) (hU (hW 1) hX))))) (jk (gLC ["tie"] [0] (gI kx (hW 2)) (ggN 0) (gTr (ib 2 mI (hU (hW 1) (hU (hW 0) hX)))) (hW 0)))))
abbrev CH:List Str:=["web","many","pairs"]
def rQ:DE->g6 RD:=(i_ (lL (ib 1 jF (hU (hW 0) hX))) (i_ (lJ (kr (gTr (ib 2 mI (hU (hW 0) (hU (hW 1) hX))))) mM j5) (jk (ib 3 qP (hU (iG dIx (hW 0) (gC (.int 0))) (hU (iG dIx (hW 0) (gC (.int 1))) (hU (hW 1) hX)))))))
abbrev Ek:List Str:=["web","tie"]
def El:DE->g6 RD:=(i_ (jW 4 (ib 3 kY (hU (hW 0) (hU (hW 1) (hU (hW 2) hX))))) (jk (ib 2 nG (hU (ib 3 kY (hU (ib 2 lR (hU (hW 0) (hU (hW 3) hX))) (hU (hW 1) (hU (hW 2) hX)))) (hU (hW 4) hX)))))
abbrev Q0:List Str:=["web","a","b","tie","former"]
def bB:DE->g6 RD:=(i_ (jW 6 (ib 3 kY (hU (ib 2 lR (hU (hW 0) (hU (hW 5) hX))) (hU (hW 1) (hU (hW 2) hX))))) (lJ (gTr (ib 2 qO (hU (hW 6) (hU (hW 4) hX)))) (i_ (jW 3 (hW 5)) (jW 4 (hW 6))) j5))
def rR:DE->g6 RD:=(i_ (lL (ib 3 jU (hU (hW 0) (hU (hW 1) (hU (hW 2) hX))))) (i_ (jW 3 (gC .non)) (i_ (jW 4 (ib 3 kY (hU (hW 0) (hU (hW 1) (hU (hW 2) hX))))) (i_ (DK (gI kx (ib 1 nJ (hU (hW 0) hX))) (ggN 5) bB) (jk (hW 3))))))
abbrev Em:List Str:=["web","a","b","best","fewest","tie","steps"]
theorem cw_at {w:Web}(g:Good w):jF [ip w]=kb .non:=by show(dW (ip w)).map (λ _=>Dt.non)=_;rw[j7 g];rfl
theorem SM {w:Web}(g:Good w){p:Nat}(h:p<w.1):jG [ip w,h_ p]=kb .non:=by show(dW (ip w)).bind (λ w=>(ja (h_ p)).bind λ p=>if p<w.1 then kb Dt.non else My)=_;rw[j7 g,iY,af,af,ae h]
theorem SN {w:Web}(g:Good w){a b:Nat}(ha:a<w.1)(hb:b<w.1)(ne:a≠b):jU [ip w,h_ a,h_ b]=kb .non:=by show(dW (ip w)).bind (λ w=>(ja (h_ a)).bind λ a=>(ja (h_ b)).bind λ b=>if a<w.1/\b<w.1/\a≠b then kb Dt.non else My)=_;rw[j7 g,iY,iY,af,af,af,ae ⟨ha,hb,ne⟩]
theorem CI:Hg 3 Ej kY rP:=by
 intro ds d hl h;match ds,h with
 | [x,y,z],h =>
  obtain⟨w,e1,h⟩:=hZ (show(dW x).bind _=_ from h);obtain⟨a,e2,h⟩:=hZ h;obtain⟨b,e3,h⟩:=hZ h;by_cases hc:a<w.1/\b<w.1
  ·rw[ae hc]at h;cases h;obtain⟨rfl,g⟩:=kf e1;rw[jd e2,jd e3];have c1:=cw_at g;have c2:=SM g hc.1;have c3:=QH g hc.2;have c4:=Kg (w:=w) (b:=b) hc.1;refine⟨.rt (iF (meQ w b a)),?_,rfl⟩;generalize h_ b=nb,h_ a=na,ip w=ww,iF (meQ w b a)=qq,Dt.tup ((meL w b).map iF)=mm at *;simp[rP,c1,c2,c3,c4]
  ·rw[ag hc]at h;cases h
theorem KD (l:hG)(t:Nat×Nat):l.map iq++[iq t]=(l++[t]).map iq:=by simp
theorem Eo:Hg 3 He qP uH:=by
 intro ds d hl h;match ds,h with
 | [x,y,z],h =>
  obtain⟨n,e1,h⟩:=hZ (show(ja x).bind _=_ from h);obtain⟨l,e2,h⟩:=hZ h;obtain⟨t,e3,h⟩:=hZ h;by_cases hc:l≠[]/\l.length<60
  ·rw[ae hc]at h
   cases h;rw[jd e1,sV e2,oR e3];refine⟨.rt (ip (n,mW (l++[t]))),?_,rfl⟩;have c1:Jp (jq l) (.tup [iq t])=kb (jq (l++[t])):=by show(if l.map iq≠[]/\[iq t]≠[]/\(l.map iq).length+1<=1000 then kb (Dt.tup (l.map iq++[iq t])) else My)=_;rw[ae ⟨by simp[hc.1],by simp,by rw[ak];lia⟩,KD]
   have c2:xk [jq (l++[t])]=kb (.lst ((mW (l++[t])).map iq)):=by show(dTt (jq (l++[t]))).bind (λ l=>if l.length<64 then kb (Dt.lst ((mW l).map iq)) else My)=_;rw[sW,af,ae (by simp;lia)]
   have c3:lP [.lst ((mW (l++[t])).map iq)]=kb (jq (mW (l++[t]))):=rfl;have c4:ip (n,mW (l++[t]))=.tup [h_ n,jq (mW (l++[t]))]:=rfl;rw[c4];generalize h_ n=nn,iq t=pt,jq l=r4,jq (l++[t])=r3,Dt.lst ((mW (l++[t])).map iq)=r2,jq (mW (l++[t]))=r at *;simp[uH,c1,c2,c3]
  ·rw[ag hc]at h;cases h
theorem OB (n:Nat)(t:Nat×Nat):kQ [h_ n,iq t]=kb (.bl (decide (t.1<n)&&(decide (t.2<n)&&decide (t.1<t.2)))):=by
 show kQ [.int n,.tup [.int t.1,.int t.2]]=_;rw[Jr];have e1:decide (0<=(t.1:Int))=V0:=by simp
 have e2:decide (0<=(t.2:Int))=V0:=by simp
 have e3:decide ((t.1:Int)<n)=decide (t.1<n):=by rw[bj];simp
 have e4:decide ((t.2:Int)<n)=decide (t.2<n):=by rw[bj];simp
 have e5:decide ((t.1:Int)<t.2)=decide (t.1<t.2):=by rw[bj];simp
 rw[e1,e2,e3,e4,e5];simp
theorem Ep:Hg 2 Hf mI uI:=by
 intro ds d hl h;match ds,h with
 | [x,y],h =>obtain⟨w,e1,h⟩:=hZ (show(dW x).bind _=_ from h);obtain⟨t,e2,h⟩:=iP h;subst h;obtain⟨rfl,g⟩:=kf e1;rw[oR e2];refine⟨.rt (.bl (jH w t)),?_,rfl⟩;have ix:dIx (ip w) (.int 0)=kb (h_ w.1):=rfl;have ix1:dIx (ip w) (.int 1)=kb (jq w.2):=rfl;have c1:=OB w.1 t;have c2:=J9 V0 t w.2;rw[ae rfl]at c2;unfold jH;generalize h_ w.1=nn,iq t=pt,ip w=ww,jq w.2=tt,(decide (t.1<w.1)&&(decide (t.2<w.1)&&decide (t.1<t.2)))=b1 at *;cases b1<;>simp[uI,c1,c2,ix,ix1]
theorem Hh (l:List Nat)(n:Nat):(l.map λ _=>n).sum=l.length*n:=by
 induction l with
 | nil=>simp
 | cons x r ih=>rw[au,aI,ih,aW,Nat.succ_mul];lia
theorem F5 (w:Web)(h:w.1<=8):(prL w).length<=64:=by
 unfold prL;rw[List.length_flatMap];have:((V2 w.1).map λ a=>((V2 w.1).map λ b=>(a,b)).length)=(V2 w.1).map λ _=>w.1:=by simp
 rw[this,Hh,bA];exact f9 h h
theorem AS:Hg 1 CH nJ nK:=by
 intro ds d hl h;match ds,h with
 | [x],h =>
  obtain⟨w,e1,h⟩:=iP (show(dW x).map _=_ from h);subst h;obtain⟨rfl,g⟩:=kf e1;refine⟨.rt (.lst ((nI w).map iq)),?_,rfl⟩;have ix:dIx (ip w) (.int 0)=kb (h_ w.1):=rfl;have h8:=g.kg;have hr:yu [h_ w.1]=kb ((V2 w.1).map h_):=ow (n:=w.1) (by lia);have lc:=xE (enc:=h_) (gg:=ggN 0) (gi2:=nA (hU (hW 2) hX)) (gg2:=ggN 1) (gt2:=jL) (ge:=jE (hU (hW 0) (hU (hW 1) hX))) (δc:=[My,My,kb (h_ w.1)])
   (δa:=λ a=>[kb (h_ a),My,kb (h_ w.1)]) (es:=λ a=>(V2 w.1).map h_) (zs:=λ a=>((V2 w.1).map λ b=>(a,b)).map iq) (V2 w.1) λ a _=>⟨rfl,by
    generalize h_ a=na,h_ w.1=nn,(V2 w.1).map h_=rs at *;simp[hr],by
    have lm:=kz (enc:=h_) (gg:=ggN 1) (ge:=jE (hU (hW 0) (hU (hW 1) hX))) (δc:=[kb (h_ a),My,kb (h_ w.1)]) (δa:=λ b=>[kb (h_ a),kb (h_ b),kb (h_ w.1)]) (enc':=λ b=>iq (a,b)) (V2 w.1) λ b _=>⟨rfl,by simp[iq]⟩;rw[lm,aR];rfl⟩
  have lc:tF (ggN 0) jL (nA (hU (hW 2) hX)) (ggN 1) jL (jE (hU (hW 0) (hU (hW 1) hX))) [My,My,kb (h_ w.1)] ((V2 w.1).map h_)=kb ((prL w).map iq):=by rw[lc,prL,List.map_flatMap]
  have lf:=ky (enc:=iq) (gg:=ggN 0) (gt:=gTr (ib 2 mI (hU (hW 1) (hU (hW 0) hX)))) (ge:=hW 0) (δc:=[My,kb (ip w)]) (δa:=λ t=>[kb (iq t),kb (ip w)]) (p:=jH w) (enc':=iq) (prL w) λ t _=>⟨rfl,by have:=OA g t;generalize iq t=pt,ip w=ww at *;simp[this],λ _=>rfl⟩
  have n1:((prL w).map iq).length<=1000:=by have:=F5 w h8;rw[ak];lia
  show nK _=kb (.rt (.lst (((prL w).filter (jH w)).map iq)));generalize h_ w.1=nn,ip w=ww,(V2 w.1).map h_=rs,(prL w).map iq=pp,((prL w).filter (jH w)).map iq=ff at *;simp[nK,ix,hr,lc,n1,lf]
theorem CJ:Hg 2 Ek lR rQ:=by
 intro ds d hl h;match ds,h with
 | [x,y],h =>
  obtain⟨w,e1,h⟩:=hZ (show(dW x).bind _=_ from h);obtain⟨t,e2,h⟩:=hZ h;by_cases hc:jH w t=V0
  ·rw[ae hc]at h
   cases h;obtain⟨rfl,g⟩:=kf e1;rw[oR e2];refine⟨.rt (ip (jb w t)),?_,rfl⟩;have c1:=cw_at g;have c2:=OA g t;rw[hc]at c2;have ix:dIx (ip w) (.int 0)=kb (h_ w.1):=rfl;have ix1:dIx (ip w) (.int 1)=kb (jq w.2):=rfl;have c3:qP [h_ w.1,jq w.2,iq t]=kb (ip (jb w t)):=by show(ja (h_ w.1)).bind (λ n=>(dTt (jq w.2)).bind λ l=>(dNP (iq t)).bind λ t=>if l≠[]/\l.length<60 then kb (ip (n,mW (l++[t]))) else My)=_;rw[iY,sW,oU,af,af,af,ae ⟨g.ne,by have:=g.len;lia⟩];rfl
   generalize h_ w.1=nn,iq t=pt,ip w=ww,jq w.2=tt,ip (jb w t)=rr at *;simp[rQ,c1,c2,c3,ix,ix1]
  ·rw[ag hc]at h;cases h
theorem M0:Hg 4 Q0 rO El:=by
 intro ds d hl h;match ds,h with
 | [x,y,z,u],h =>
  obtain⟨w,e1,h⟩:=hZ (show(dW x).bind _=_ from h);obtain⟨a,e2,h⟩:=hZ h;obtain⟨b,e3,h⟩:=hZ h;obtain⟨t,e4,h⟩:=hZ h;by_cases hc:a<w.1/\b<w.1/\jH w t=V0
  ·rw[ae hc]at h;cases h;obtain⟨rfl,g⟩:=kf e1;rw[jd e2,jd e3,oR e4];obtain⟨ha,hb,hf⟩:=hc;refine⟨.rt (iF (meQ (jb w t) b a-meQ w b a)),?_,rfl⟩;have c1:=F4 g ha hb;have c2:=Kz g hf;have c3:=F4 (g.l8 hf) (a:=a) (b:=b) ha hb;have c4:=Kh ((g.l8 hf).xN (b:=b) hb a) (g.xN hb a);generalize h_ b=nb,h_ a=na,iq t=pt,ip w=ww,ip (jb w t)=ww2,iF (meQ w b a)=r2,iF (meQ (jb w t) b a)=r1,iF (meQ (jb w t) b a-meQ w b a)=r at *;simp[El,c1,c2,c3,c4]
  ·rw[ag hc]at h;cases h
theorem zB {w:Web}(g:Good w){a b:Nat}(ha:a<w.1)(hb:b<w.1):∀ (l:hG) (best:g6 (Nat×Nat)) (x5 x6:g6 Dt),(∀ t∈l,jH w t=V0)->(∀ t,best=kb t->jH w t=V0) ->
  ∃ y5 y6,pE (ggN 5) bB [kb (ip w),kb (h_ a),kb (h_ b),kb (kR best),kb (iF (j8 w a b best)),x5,x6] (l.map iq)=kb (.nx [kb (ip w),kb (h_ a),kb (h_ b),kb (kR (l.foldl (jg w a b) best)),kb (iF (j8 w a b (l.foldl (jg w a b) best))),y5,y6])
 | [],best,x5,x6,_,_=>⟨x5,x6,rfl⟩
 | t::r,best,x5,x6,hl,hbst=>by
  have hf:=hl t av;have c2:=Kz g hf;have c3:=F4 (g.l8 hf) (a:=a) (b:=b) ha hb;have sb:sm (j8 w a b best):=by
   cases best with
   | none=>exact g.xN hb a
   | some u=>exact(g.l8 (hbst u rfl)).xN (b:=b) hb a
  have c4:=QZ ((g.l8 hf).xN (b:=b) hb a) sb;have st:bB [kb (ip w),kb (h_ a),kb (h_ b),kb (kR best),kb (iF (j8 w a b best)),kb (iq t),x6]=kb (.nx [kb (ip w),kb (h_ a),kb (h_ b),kb (kR (jg w a b best t)),kb (iF (j8 w a b (jg w a b best t))),kb (iq t),kb (iF (meQ (jb w t) b a))]):=by
   by_cases lt:meQ (jb w t) b a<j8 w a b best
   ·have e1:jg w a b best t=kb t:=ae lt;have e2:j8 w a b (kb t)=meQ (jb w t) b a:=rfl;have e3:kR (kb t)=iq t:=rfl;rw[e1,e2,e3];rw[decide_eq_true lt]at c4;generalize kR best=eo,h_ b=nb,h_ a=na,iq t=pt,ip w=ww,ip (jb w t)=ww2,iF (j8 w a b best)=r2,iF (meQ (jb w t) b a)=r1 at *;simp[bB,c2,c3,c4]
   ·have e1:jg w a b best t=best:=ag lt;rw[e1];rw[decide_eq_false lt]at c4;generalize kR best=eo,h_ b=nb,h_ a=na,iq t=pt,ip w=ww,ip (jb w t)=ww2,iF (j8 w a b best)=r2,iF (meQ (jb w t) b a)=r1 at *;simp[bB,c2,c3,c4]
  obtain⟨y5,y6,ih⟩:=zB g ha hb r (jg w a b best t) (kb (iq t)) (kb (iF (meQ (jb w t) b a))) (λ u hu=>hl u (ar _ hu)) (λ u hu=>by
   unfold jg at hu;split at hu
   ·cases hu;exact hf
   ·exact hbst u hu)
  refine⟨y5,y6,?_⟩;rw[au,pE];show(kb _).bind _=_;rw[af];show(bB [kb (ip w),kb (h_ a),kb (h_ b),kb (kR best),kb (iF (j8 w a b best)),kb (iq t),x6]).bind _=_;rw[st,af];exact ih
theorem CK:Hg 3 Em o6 rR:=by
 intro ds d hl h;match ds,h with
 | [x,y,z],h =>
  obtain⟨w,e1,h⟩:=hZ (show(dW x).bind _=_ from h);obtain⟨a,e2,h⟩:=hZ h;obtain⟨b,e3,h⟩:=hZ h;by_cases hc:a<w.1/\b<w.1/\a≠b
  ·rw[ae hc]at h
   cases h;obtain⟨rfl,g⟩:=kf e1;rw[jd e2,jd e3];obtain⟨ha,hb,ne⟩:=hc;refine⟨.rt (kR (jP w a b)),?_,rfl⟩;have c1:=SN g ha hb ne;have c2:=F4 g ha hb;have c3:=SJ g;obtain⟨y5,y6,lp⟩:=zB g ha hb (nI w) My My My (λ t ht=>uE.mp ht) (λ t h=>by cases h);have e0:j8 w a b My=meQ w b a:=rfl;have e9:kR My=.non:=rfl;rw[e0,e9]at lp;have n1:((nI w).map iq).length<=1000:=by have:=F5 w g.kg;have:=dF (jH w) (prL w);rw[ak,nI];lia
   unfold jP;generalize (nI w).foldl (jg w a b) My=bb,(nI w).map iq=ff at *;generalize kR bb=eo,h_ b=nb,h_ a=na,ip w=ww,iF (meQ w b a)=r2,iF (j8 w a b bb)=r1 at *;simp[rR,c1,c2,c3,lp,n1]
  ·rw[ag hc]at h;cases h
end L2
namespace L2
open PySem PySem.Spec PyProof.Rows PySem.W Builtin Builtin.ObjectAttr Builtin.Getset_descriptor
structure ExT (K:g9)(C:Addr):Prop where
 ga:findIn K (.ref C) "__getattribute__"=kb (kb (.builtin "BaseException.__getattribute__"))
 gh:findIn K (.ref C) "__getattr__"=kb My
 cl:findIn K (.ref C) "__class__"=kb (kb (.builtin "object.__class__"))
 sp:specialIn K (.builtin "object.__class__") "__get__"=kb (kb (.builtin "getset_descriptor.__get__"))
 tk:takesIn K (.builtin "object.__class__")=kb V0
 mo:mroIn K C (.type "object")=kb V0
 sb:subIn K (.ref C) (.type "BaseException")=kb V0
 is:(clsIn K C).isSome=V0
section
variable {prog:Program}{w:World}{A:Around}{E:g0}{s:hE}{K:g9}{x C:Addr}
theorem oC {M:Model}{h:Heap}(e:isC x (.ref C) h):Looks M h (typeOf (.ref x)) (.ref C):=by obtain⟨oe,e1,e2⟩:=e;rw[<-e2];exact(Looks.ld e1).andThen .now
theorem M3 {R:Result->hE->Prop}{tp:g_}(X:K.In s.heap)(I:isC x (.ref C) s.heap)(hm:mroIn K C (.type "object")=kb V0)
  (h:R (.ok (.ret (.ref C))) s):codeAny (model prog w) A (.call (.builtin "getset_descriptor.__get__") ⟨[.builtin "object.__class__",.ref x,tp],[]⟩) R s:=by
 obtain⟨hh,g,dr,t,os⟩:=s;have L0:=oC (M:=model prog w) I;have L1:=looks_mroIn (M:=model prog w) X hm;refine codeAny_call_builtin KF.slot_gs.plain KF.entry_gs (KF.slot_gs.check _ _ _ _ _ _ _ _ KF.type_class (KF.args_gs _ _ _) ?_);unfold Builtin.«getset_descriptor.__get__» descrGet;rw[dga_obj];refine aa (ah ?_);unfold descrGetter descrCheckInstance descrNameAndClass isInstance;simp only[KF.owner_class];repeat lk
 refine⟨Code.quiet_builtin _ (by decide +kernel),codeAny_builtin KF.entry_class ?_⟩;unfold Builtin.«object.__class__» shownTypeOf;repeat lk
 exact h
theorem Hi {tk:Tok}{Q:Fin->hE->Prop}(X:K.In s.heap)(T:ExT K C)(I:isC x (.ref C) s.heap)(hq:Q (.done (.ret (.ref C))) s) :
  wpAny (model prog w) A (Builtin.«object.__getattribute__» ⟨[.ref x,.str "__class__" tk],[]⟩) Q E s:=by
 obtain⟨hh,g,dr,t,os⟩:=s;have L0:=oC (M:=model prog w) I;have L1:=looks_findIn (M:=model prog w) X T.cl;have L2:=looks_specialIn (M:=model prog w) X T.sp;have L3:=looks_takesIn (M:=model prog w) X T.tk;unfold Builtin.«object.__getattribute__»;repeat lk
 refine wpAny_run (h:=My) (M3 X I T.mo ?_);exact ah (ah hq)
theorem Hj {M:Model}{nameV:g_}{Q:Unit->hE->Prop}(X:K.In s.heap)(T:ExT K C)(I:isC x (.ref C) s.heap)(hq:Q () s):wpAny M A (checkBuiltinCall "BaseException.__getattribute__" ⟨[.ref x,nameV],[]⟩) Q E s:=by
 obtain⟨hh,g,dr,t,os⟩:=s;have hk:builtinKind "BaseException.__getattribute__"=kb .slot:=by decide +kernel
 have hsplit:splitId "BaseException.__getattribute__"=kb ("BaseException","__getattribute__"):=by decide +kernel
 have ha:=F.args_bexc_ga (.ref x) nameV;have L0:=oC (M:=M) I;have L1:=looks_subIn (M:=M) X T.sb;simp only[checkBuiltinCall,hk,hsplit];refine aa ?_;unfold isInstance;repeat lk
 exact hq
theorem Hk {Q:g6 g_->hE->Prop}(X:K.In s.heap)(T:ExT K C)(I:isC x (.ref C) s.heap)(h:Q (kb (.ref C)) {s with toks:=s.toks+1}):wpAny (model prog w) A (getAttr? (.ref x) "__class__") Q E s:=by
 obtain⟨hh,g,d,t,os⟩:=s;have L0:=oC (M:=model prog w) I;have L1:=looks_findIn (M:=model prog w) X T.ga;have L2:=looks_findIn (M:=model prog w) X T.gh;unfold getAttr? getAttrBy? getAttrBy;refine aa (wpAny_mkText (aa (eS (bT (aa (L0.at (aa (L1.at ?_))))))));have hx2:(Value.builtin "BaseException.__getattribute__"==Value.builtin "object.__getattribute__")=V1:=by decide +kernel
 have hx1:(onTheHeap (Value.ref C)&&Value.builtin "BaseException.__getattribute__"==Value.builtin "object.__getattribute__")=V1:=by rw[hx2];rfl
 dsimp only;rw[ag (by rw[hx1];exact ax)];unfold getAttrByItsOwn hookBefore;rw[ae (by rfl)];refine aa (L2.at (aa (eS (bT ?_))));unfold callGetattribute boundAndCalled;rw[ag (by decide)];rw[F.excAttr_ValueError.ga.bind (.ref x)];refine aa (ah (wpAny_call (codeAny_call_builtin F.excAttr_ValueError.ga.plain F.entry_bexc_ga (Hj X T I (Hi X T I ?_)))));exact handed_on rfl (ah h)
set_option tactic.hygienic true in
theorem KG (T:ExT K C):KitX K (.ref x) (.ref C) (isC x (.ref C)) where
 ty:=λ _ _ _ I=>oC I
 it:=λ _ _ X _=>by
  obtain⟨cdD,hcD⟩:=eO.mp T.is;unfold clsIn at hcD;split at hcD
  ·rename_i c' d' cd' sl' ho;intro A' Q' E' s' k q;unfold isType loadHead;exact aa (wpAny_loadPart (k _ _ (X _ _ ho)) (ah q))
  ·cases hcD
 ne:=λ h tp dd its n sl X htp=>by
  obtain⟨cdD,hcD⟩:=eO.mp T.is;refine Bool.eq_false_iff.mpr λ q=>?_;have e:C=tp:=Value.ref.inj (beq_iff_eq.mp q);subst e;unfold clsIn at hcD;split at hcD
  ·rename_i c' d' cd' sl' ho;have z:=(X _ _ ho).symm.trans htp;cases z
  ·cases hcD
 ca:=λ X I k=>Hk X T I k
end
def Vg (K:g9)(c:g_)(b:Bool):List V->Hp->VK->Prop:=λ xs H Q=>∃ a C v,xs=[.ref a,v]/\RelV v c/\H a=kb (.ext (isC a (.ref C)))/\ExT K C/\kitOne K (.ref C) c=kb b/\Q (.bl b) H
end L2
namespace L2
open PySem PySem.Spec PyProof.Rows Zp Qs PySem.SeqAt
section
open PySem.AutoSeq1 (wpAny_loadPart')
open PySem.MeetsSeq PySem.MeetsSeq2 PySem.MeetsSeq3
end
section
variable {X:Cx}{o e:Expr}
end
section
variable {X:Cx}{o e:Expr}{p pos:Pos}
theorem SO {c:g_}{b:Bool}:j3 X (.builtin "isinstance") (Vg X.K c b):=by
 intro pins s σ H xs us Q I rs h;obtain⟨a,C,v,rfl,rv,ha,T,k,q⟩:=h;obtain⟨u,u',rfl,r1,r2⟩:=vals2 rs;cases r1;have e:u'=c:=by
  cases v with
  | ref z=>exact(show u'=Value.ref z from r2).trans (show c=Value.ref z from rv).symm
  | ty n=>exact(show u'=Value.type n from r2).trans (show c=Value.type n from rv).symm
  | non=>exact(show u'=Value.none from r2).trans (show c=Value.none from rv).symm
  | bl b=>exact(show u'=Value.bool b from r2).trans (show c=Value.bool b from rv).symm
  | int i=>obtain⟨t,rfl⟩:=rv;cases k
  | str i=>obtain⟨t,rfl⟩:=rv;cases k
  | byt i=>obtain⟨t,rfl⟩:=rv;cases k
  | flt i=>obtain⟨t,rfl⟩:=rv;cases k
 subst e;have ok:jO X.prog X.w H s.heap a (.ext (isC a (.ref C))):=I.hok a _ ha;exact PySem.W.kia_one (KG T) I.kIn ok.1 k (λ z=>nomatch z) λ tk=>⟨.bl b,H,I.tok _,rfl,q⟩
def SQ (x y:Dt):g6 Dt:=(BN x).bind λ es=>(BM es).bind λ bs=>match y with
 | .bl V0=>kb (.int (bs.countP id:Nat))
 | _=>My
def SR (x y:Dt):g6 Dt:=(BN x).bind λ es=>(BM es).bind λ bs=>match y with
 | .bl V0=>if bs.length<=1000 then (bs.findIdx? id).map λ(j:Nat)=>Dt.int j else My
 | _=>My
def SS (K:g9):V->List V->Hp->VK->Prop:=λ x xs H Q=>∃ bs:List Bool,xs=[.bl V0]/\Is K H x (.lst (bs.map .bl))/\Q (.int (bs.countP id:Nat)) H
def SU (K:g9):V->List V->Hp->VK->Prop:=λ x xs H Q=>∃ (bs:List Bool) (j:Nat),xs=[.bl V0]/\Is K H x (.lst (bs.map .bl))/\bs.length<=1000/\bs.findIdx? id=kb j/\Q (.int j) H
theorem xP {K:g9}{H:Hp}:∀ {bs:List Bool} {xs:List V} {its:List g_},Iss K H xs (bs.map .bl)->Vals xs its->its=bs.map Value.bool
 | [],_,_,js,r=>by cases js;cases r;rfl
 | b::bs,_,_,js,r=>by
  cases js with
  | cons i is =>
   cases r with
   | cons r rs =>rw[i.kT]at r;cases r;rw[xP is rs];rfl
theorem xQ {A:Around}{s:hE}{w:g_}{bs:List Bool}(hw:w∈(bs.map Value.bool).toArray):EqAt A s w (.bool V0) (w==.bool V0):=by
 obtain⟨b,_,rfl⟩:=aE.mp (List.mem_toArray.mp hw);have:=EqAt.bool_bool (A:=A) (s:=s) b V0;have e:(Value.bool b==Value.bool V0)=(b==V0):=by cases b<;>rfl
 rw[e];exact this
theorem M4:MtR X "list.count" (SS X.K):=by
 intro pins s σ H x xs v us Q I rx rv h;obtain⟨bs,rfl,i1,q⟩:=h;obtain⟨u,rfl,ru⟩:=rv.one;cases ru;obtain⟨p,ys,rfl,hp,js⟩:=i1.lst_inv;cases rx;obtain⟨its,rvs,pl,hz⟩:=I.list (SqL.of hp);have e:=xP js rvs;subst e;obtain⟨⟨cls,dd,data,sl⟩,ho,hc,n,hd⟩:=id pl.isList;simp only at hc hd;subst hc hd;refine call_meets F.slot_list_count ⟨_,ho,rfl⟩ F.entry_list_count (F.args_list_count_2 _ _) (list_countAt p (bs.map Value.bool).toArray n dd sl (.bool V0) (λ w=>w==.bool V0)) ⟨ho,λ w hw=>xQ hw,?_⟩;have e:(bs.map Value.bool).toArray.toList.countP (λ w=>w==Value.bool V0)=bs.countP id:=by rw[List.toList_toArray,List.countP_map];congr 1;funext b;cases b<;>rfl
 rw[e];exact⟨.int (bs.countP id:Nat),H,I.tok _,⟨_,rfl⟩,q⟩
theorem M5:MtR X "list.index" (SU X.K):=by
 intro pins s σ H x xs v us Q I rx rv h;obtain⟨bs,j,rfl,i1,hl,fj,q⟩:=h;obtain⟨u,rfl,ru⟩:=rv.one;cases ru;obtain⟨p,ys,rfl,hp,js⟩:=i1.lst_inv;cases rx;obtain⟨its,rvs,pl,hz⟩:=I.list (SqL.of hp);have e:=xP js rvs;subst e;obtain⟨⟨cls,dd,data,sl⟩,ho,hc,n,hd⟩:=id pl.isList;simp only at hc hd;subst hc hd;obtain⟨hj,hj1,hj2⟩:=List.findIdx?_eq_some_iff_getElem.mp fj;refine call_meets F.slot_list_index ⟨_,ho,rfl⟩ F.entry_list_index (F.args_list_index_2 _ _) (list_indexAt p (bs.map Value.bool).toArray n dd sl (.bool V0) (λ w=>w==.bool V0) j (by simpa using hj) (by lia) (by
  have:bs[j]=V0:=hj1;simp[this]) (λ m hm hmj=>by
  have:¬ bs[m]=V0:=hj2 m hmj;have:bs[m]=V1:=by simpa using this
  simp[this])) ⟨ho,λ w hw=>xQ hw,?_⟩
 exact⟨.int j,H,I.tok _,⟨_,rfl⟩,q⟩
theorem Q1 {apos cpos:Pos}{ga gb:DE->g6 Dt}(ha:PD X o ga)(hb:PD X e gb)(hbase:attributeBase o "count" X.env (eval o X.env)=eval o X.env:=by rfl)
  (hfew:((backTo cpos (starEach [e] X.env)).all (λ x=>!x.1)&&(backToKw cpos (keywordEach [] X.env)).all (λ x=>x.1.isSome)&&decide (([e]:List Expr).length+([]:List Keyword).length+(if ([]:List Keyword).isEmpty then 0 else 1)<30))=V0:=by rfl)
  (hline:(apos.endLine==cpos.line)=V0:=by rfl) (hs:starEach [e] X.env=[(V1,eval e X.env)]:=by rfl):PD X (.Call (.Attribute o "count" apos) [e] [] cpos) (iG SQ ga gb) :=
 (wo F.plainAttrs_list F.slot_list_count F.type_list_count M4 ha (ic hb iM hs) hbase hfew hline hs).of λ σ H Q hz=>by
  obtain⟨δ,d,S,e1,q⟩:=hz;obtain⟨x,y,f1,f2,f3⟩:=sE e1;obtain⟨es,g1,g2⟩:=hZ f3;obtain⟨bs,g3,g4⟩:=hZ g2;obtain rfl:=oq g1;obtain rfl:=sO g3;match y,g4,f2 with
  | .bl V0,g4,f2 =>cases g4;refine⟨δ,_,S,f1,λ v H1 s1 i1=>?_⟩;obtain⟨a,xs,rfl,hq,is⟩:=id i1.lst_inv;refine⟨.inl ⟨rfl,xs,SqL.of hq⟩,δ,_,S.ext s1,f2,λ v2 H2 s2 i2=>?_⟩;exact⟨bs,by rw[i2.kT],i1.ext s2,q _ H2 (s1.trans s2) (.int _)⟩
theorem Q2 {apos cpos:Pos}{ga gb:DE->g6 Dt}(ha:PD X o ga)(hb:PD X e gb)(hbase:attributeBase o "index" X.env (eval o X.env)=eval o X.env:=by rfl)
  (hfew:((backTo cpos (starEach [e] X.env)).all (λ x=>!x.1)&&(backToKw cpos (keywordEach [] X.env)).all (λ x=>x.1.isSome)&&decide (([e]:List Expr).length+([]:List Keyword).length+(if ([]:List Keyword).isEmpty then 0 else 1)<30))=V0:=by rfl)
  (hline:(apos.endLine==cpos.line)=V0:=by rfl) (hs:starEach [e] X.env=[(V1,eval e X.env)]:=by rfl):PD X (.Call (.Attribute o "index" apos) [e] [] cpos) (iG SR ga gb) :=
 (wo F.plainAttrs_list F.slot_list_index F.type_list_index M5 ha (ic hb iM hs) hbase hfew hline hs).of λ σ H Q hz=>by
  obtain⟨δ,d,S,e1,q⟩:=hz;obtain⟨x,y,f1,f2,f3⟩:=sE e1;obtain⟨es,g1,g2⟩:=hZ f3;obtain⟨bs,g3,g4⟩:=hZ g2;obtain rfl:=oq g1;obtain rfl:=sO g3;match y,g4,f2 with
  | .bl V0,g4,f2 =>
   by_cases hl:bs.length<=1000
   rotate_left
   ·cases (ag hl).symm.trans (show(if bs.length<=1000 then _ else _)=_ from g4)
   obtain⟨j,g5,rfl⟩:=iP ((ae hl).symm.trans (show(if bs.length<=1000 then (bs.findIdx? id).map λ(j:Nat)=>Dt.int j else My)=_ from g4));refine⟨δ,_,S,f1,λ v H1 s1 i1=>?_⟩;obtain⟨a,xs,rfl,hq,is⟩:=id i1.lst_inv;refine⟨.inl ⟨rfl,xs,SqL.of hq⟩,δ,_,S.ext s1,f2,λ v2 H2 s2 i2=>?_⟩;exact⟨bs,j,by rw[i2.kT],i1.ext s2,hl,g5,q _ H2 (s1.trans s2) (.int _)⟩
end
end L2
namespace L2
open PySem PySem.Spec PyProof.Rows Zp Qs
structure CkT (K:g9)(mg:gZ)(n:Str)(C:Addr)(b:Bool) where
 D:Addr
 m:mg n=kb (.ref D)
 k:PySem.W.kitOne K (.ref C) (.ref D)=kb b
section
variable {X:Cx}{e:Expr}{pos p p2:Pos}
def M6 (C:Addr)(b:Bool):TE:=λ σ H Q=>(∃ a,σ[0]?=kb (kb (.ref a))/\H a=kb (.ext (isC a (.ref C))))/\Q (.bl b) H
theorem KH {y:Str}{v:V}{c:g_}{C:Addr}{b:Bool}(z:X.mg "isinstance"=My)(T:ExT X.K C)(h0:PE X (.Name y p2) (iX 0))(he:PE X e (tC v))(rv:RelV v c)(k:PySem.W.kitOne X.K (.ref C) c=kb b)(hg:Gl X "isinstance":=by rfl)
  (hs1:starEach [.Name y p2,e] X.env=(V1,eval (.Name y p2) X.env)::starEach [e] X.env:=by rfl) (hs2:starEach [e] X.env=[(V1,eval e X.env)]:=by rfl) (hpl:(backTo pos (starEach [e] X.env)).any (·.1)=V1:=by rfl):PE X (.Call (.Name "isinstance" p) [.Name y p2,e] [] pos) (M6 C b) :=
 (kO (SO (c:=c) (b:=b)) hg z boot_isinstance (ic h0 (ic he iM hs2) hs1) (he:=hs1) (hpl:=hpl)).of λ σ H Q h=>by obtain⟨⟨a,h1,h2⟩,q⟩:=h;exact⟨_,h1,a,C,v,rfl,rv,h2,T,k,q⟩
theorem kZ {x y:Str}{C:Addr}{b:Bool}{p3:Pos}(z:X.mg "isinstance"=My)(T:ExT X.K C)(J:CkT X.K X.mg x C b)(h0:PE X (.Name y p2) (iX 0))(hg:Gl X "isinstance":=by rfl)(hg2:Gl X x:=by rfl)(hd:(x==("__debug__":Str))=V1:=by decide)
  (hs1:starEach [.Name y p2,.Name x p3] X.env=(V1,eval (.Name y p2) X.env)::starEach [.Name x p3] X.env:=by rfl) (hs2:starEach [.Name x p3] X.env=[(V1,eval (.Name x p3) X.env)]:=by rfl) (hpl:(backTo pos (starEach [.Name x p3] X.env)).any (·.1)=V1:=by rfl):PE X (.Call (.Name "isinstance" p) [.Name y p2,.Name x p3] [] pos) (M6 C b) :=
 KH z T h0 (EO (v:=.ref J.D) hg2 J.m rfl hd) rfl J.k hg hs1 hs2 hpl
theorem vG:bootBuiltins "ValueError"=kb (.type "ValueError"):=by decide +kernel
theorem Q3 {y:Str}{C:Addr}{b:Bool}{p3:Pos}(z:X.mg "isinstance"=My)(z2:X.mg "ValueError"=My)(T:ExT X.K C)(k:PySem.W.kitOne X.K (.ref C) (.type "ValueError")=kb b)(h0:PE X (.Name y p2) (iX 0))(hg:Gl X "isinstance":=by rfl)(hg2:Gl X "ValueError":=by rfl)
  (hs1:starEach [.Name y p2,.Name "ValueError" p3] X.env=(V1,eval (.Name y p2) X.env)::starEach [.Name "ValueError" p3] X.env:=by rfl) (hs2:starEach [.Name "ValueError" p3] X.env=[(V1,eval (.Name "ValueError" p3) X.env)]:=by rfl) (hpl:(backTo pos (starEach [.Name "ValueError" p3] X.env)).any (·.1)=V1:=by rfl):PE X (.Call (.Name "isinstance" p) [.Name y p2,.Name "ValueError" p3] [] pos) (M6 C b) :=
 KH z T h0 (ER (v:=.ty "ValueError") hg2 z2 vG rfl) rfl k hg hs1 hs2 hpl
end
def tIs (C:Addr):List Bool->TA
 | []=>jI
 | b::bs=>iN (M6 C b) (tIs C bs)
theorem KJ {C:Addr}{σ:St}{H:Hp}{a:Addr}(h0:σ[0]?=kb (kb (.ref a)))(h1:H a=kb (.ext (isC a (.ref C)))):∀ (bs:List Bool) (Q:List V->Hp->Prop),Q (bs.map V.bl) H->tIs C bs σ H Q
 | [],_,q=>q
 | b::bs,Q,q=>⟨⟨a,h0,h1⟩,KJ h0 h1 bs _ q⟩
theorem CL {K:g9}{H:Hp}:∀ (bs:List Bool),Iss K H (bs.map V.bl) (bs.map Dt.bl)
 | []=>.nil
 | b::bs=>.cons (.bl b) (CL bs)
end L2
namespace K53
open PySem PySem.Spec PyProof.Rows L2 Zp
def top (i:Nat):Stmt:=PySem.Challenge.pw_treewalkers_k53_whole_ties.main.body.getD i (.Pass ⟨0,0,0,0⟩)
abbrev xR:Stmt:=top 18
abbrev oD:Stmt:=top 19
abbrev xS:Stmt:=top 20
abbrev F6:Stmt:=top 21
abbrev zC:Stmt:=top 22
abbrev CM:Stmt:=top 23
abbrev zD:Stmt:=top 24
abbrev xT:Stmt:=top 28
abbrev CN:Stmt:=top 29
abbrev ve:Stmt:=top 30
abbrev zE:Stmt:=top 31
abbrev vf:Stmt:=top 32
abbrev zF:Stmt:=top 33
abbrev CO:Stmt:=top 34
abbrev vg:Stmt:=top 35
abbrev rf:Stmt:=top 36
abbrev vh:Stmt:=top 37
abbrev tJ:Stmt:=top 38
abbrev xU:Stmt:=top 40
abbrev xV:Stmt:=top 41
abbrev F7:Stmt:=top 42
abbrev xW:Stmt:=top 43
abbrev zG:Stmt:=top 45
abbrev zH:Stmt:=top 46
abbrev vi:Stmt:=top 47
abbrev xX:Stmt:=top 48
abbrev zI:Stmt:=top 49
abbrev KL:Stmt:=top 50
abbrev xY:Stmt:=top 51
abbrev zJ:Stmt:=top 53
abbrev vj:Stmt:=top 54
abbrev qj:Stmt:=top 56
abbrev xZ:Stmt:=top 57
abbrev vk:Stmt:=top 58
abbrev l9:Stmt:=top 59
abbrev zK:Stmt:=top 60
abbrev vm:Stmt:=top 61
abbrev rS:Stmt:=top 62
abbrev x_:Stmt:=top 63
abbrev qk:Stmt:=top 64
abbrev ya:Stmt:=top 65
abbrev vn:Stmt:=top 66
abbrev OC:Stmt:=top 67
theorem CP:iL ["thing"] ["thing"] (il xR):=by trivial
theorem lF:iL ["a","b"] ["a","b"] (il oD):=by trivial
theorem vo:iL ["top","bottom","divisor"] ["top","bottom"] (il xS):=by trivial
theorem KN:iL ["one","other"] ["one","other"] (il F6):=by trivial
theorem Er:iL ["one","other"] ["one","other"] (il zC):=by trivial
theorem mJ:iL ["rows","table","former","at","lead"] ["rows"] (il CM):=by trivial
theorem Es:iL ["row","lead","at","former"] ["row","lead","at","former"] (il zD):=by trivial
theorem CQ:iL ["many","thing"] ["many","thing"] (il xT):=by trivial
theorem Hl:iL ["many","thing","a","b"] ["many","thing"] (il CN):=by trivial
theorem AU:iL ["things"] ["things"] (il ve):=by trivial
theorem rT:iL ["ties","place","lesser","greater"] ["ties","place"] (il zE):=by trivial
theorem lG:iL ["ties","start","found","edge","beyond","place","near"] ["ties","start"] (il vf):=by trivial
theorem Et:iL ["web","many","ties"] ["web"] (il zF):=by trivial
theorem Hm:iL ["thing","many","ties"] ["thing"] (il CO):=by trivial
theorem AV:iL ["thing"] ["thing"] (il vg):=by trivial
theorem yb:iL ["web","thing"] ["web","thing"] (il rf):=by trivial
theorem AW:iL ["a","b"] ["a","b"] (il vh):=by trivial
theorem yI:iL ["web","a","b"] ["web","a","b"] (il tJ):=by trivial
theorem CS:iL ["web","given","added"] ["web","given","added"] (il xU):=by trivial
theorem ql:iL ["web","place","given","added","many","ties","row","near","other"] ["web","place","given","added"] (il xV):=by trivial
theorem KO:iL ["web","goal"] ["web","goal"] (il F7):=by trivial
theorem CT:iL ["web","a","b"] ["web","a","b"] (il xW):=by trivial
theorem Eu:iL ["many","ties","tie"] ["many","ties","tie"] (il zG):=by trivial
theorem Ew:iL ["web","thing"] ["web","thing"] (il zH):=by trivial
theorem o7:iL ["web","many","pairs"] ["web"] (il vi):=by trivial
theorem CU:iL ["web","tie"] ["web","tie"] (il xX):=by trivial
theorem o8:iL ["web","tie","many","ties","narrowed"] ["web","tie"] (il zI):=by trivial
theorem F8:iL ["web","a","b","tie","former"] ["web","a","b","tie"] (il KL):=by trivial
theorem lj:iL ["web","a","b","best","fewest","tie","steps"] ["web","a","b"] (il xY):=by trivial
theorem Ex:iL ["web","a","b"] ["web","a","b"] (il zJ):=by trivial
theorem tK:iL ["web","a","b","high"] ["web","a","b"] (il vj):=by trivial
theorem vH:iL ["_law_script","_law_k"] ["_law_script","_law_k"] (il qj):=by trivial
theorem l_:iL ["_law_cell","_law_number","_law_j","_law_mixed"] ["_law_cell"] (il xZ):=by trivial
theorem tL:iL ["_law_pot_here","_law_far","_law_found"] ["_law_pot_here","_law_far"] (il vk):=by trivial
theorem kH:iL ["_law_e","_law_some","_law_words"] ["_law_e"] (il l9):=by trivial
theorem o9:iL ["_law_top","_law_bottom","_law_one","_law_other"] ["_law_top","_law_bottom"] (il zK):=by trivial
theorem AX:iL ["_law_one","_law_other"] ["_law_one","_law_other"] (il vm):=by trivial
theorem jv:iL ["_law_pot_here","_law_most","_law_thick","_law_many","_law_shape","_law_extra","_law_left","_law_called","_law_ties_here","_law_place","_law_drawn_one","_law_turn","_law_one","_law_other"] ["_law_pot_here","_law_most","_law_thick"] (il rS):=by trivial
theorem vp:iL ["_law_pot_here","_law_web_here","_law_a"] ["_law_pot_here","_law_web_here"] (il x_):=by trivial
theorem vI:iL ["_law_one","_law_other"] ["_law_one","_law_other"] (il qk):=by trivial
theorem tM:iL ["_law_web_here","_law_found","_law_one"] ["_law_web_here"] (il vn):=by trivial
theorem qm:iL ["_law_script","_law_k","_law_pot_here","_law_web_here","_law_tree","_law_a","_law_b","_law_best","_law_some","_law_tie","_law_whole","_law_here","_law_left"] ["_law_script"] (il OC):=by trivial
set_option genInjectivity false in
set_option genSizeOf false in
structure Txt (K:g9)(mg:gZ) where
 o_:FnT K mg "is_whole" xR ["thing"]
 lS:FnT K mg "common_divisor" oD ["a","b"]
 pf:FnT K mg "fraction" xS ["top","bottom"]
 AY:FnT K mg "minus" F6 ["one","other"]
 uJ:FnT K mg "is_less" zC ["one","other"]
 yc:FnT K mg "solved" CM ["rows"]
 uK:FnT K mg "cleared" zD ["row","lead","at","former"]
 m9:FnT K mg "is_place" xT ["many","thing"]
 oE:FnT K mg "is_tie" CN ["many","thing"]
 qo:FnT K mg "is_rising" ve ["things"]
 oF:FnT K mg "tied_to" zE ["ties","place"]
 qp:FnT K mg "distances" vf ["ties","start"]
 uO:FnT K mg "degrees" zF ["web"]
 oG:FnT K mg "is_web" CO ["thing"]
 kc:FnT K mg "check_web" vg ["thing"]
 kh:FnT K mg "check_place" rf ["web","thing"]
 qr:FnT K mg "check_two" vh ["a","b"]
 mw:FnT K mg "check_ends" tJ ["web","a","b"]
 ph:FnT K mg "balanced" xU ["web","given","added"]
 rV:FnT K mg "equation" xV ["web","place","given","added"]
 tN:FnT K mg "means" F7 ["web","goal"]
 lT:FnT K mg "web_mean" xW ["web","a","b"]
 uP:FnT K mg "widened" zG ["many","ties","tie"]
 qQ:FnT K mg "is_free" zH ["web","thing"]
 qt:FnT K mg "free_ties" vi ["web"]
 m_:FnT K mg "with_tie" xX ["web","tie"]
 lU:FnT K mg "without" zI ["web","tie"]
 yd:FnT K mg "more" KL ["web","a","b","tie"]
 rW:FnT K mg "best_tie" xY ["web","a","b"]
 uQ:FnT K mg "heights" zJ ["web","a","b"]
 ma:FnT K mg "hindrance" vj ["web","a","b"]
 nc:FnT K mg "_law_cell_at" qj ["_law_script","_law_k"]
 rX:FnT K mg "_law_pot" xZ ["_law_cell"]
 jw:FnT K mg "_law_take" vk ["_law_pot_here","_law_far"]
 nL:FnT K mg "_law_word" l9 ["_law_e"]
 uR:FnT K mg "_law_fr" zK ["_law_top","_law_bottom"]
 qu:FnT K mg "_law_less" vm ["_law_one","_law_other"]
 ng:FnT K mg "_law_web" rS ["_law_pot_here","_law_most","_law_thick"]
 rY:FnT K mg "_law_two" x_ ["_law_pot_here","_law_web_here"]
 lH:FnT K mg "_law_no_more" qk ["_law_one","_law_other"]
 pj:FnT K mg "_law_cut" ya ["_law_web_here","_law_tie"]
 qv:FnT K mg "_law_ties" vn ["_law_web_here"]
 F9:FnT K mg "law" OC ["_law_script"]
 iO:mg "isinstance"=My
 rh:mg "len"=My
 OD:mg "all"=My
 F_:mg "abs"=My
 OE:mg "min"=My
 OF:mg "max"=My
 VN:mg "sum"=My
 ye:mg "sorted"=My
 my:mg "tuple"=My
 SV:mg "int"=My
 Q4:mg "bool"=My
 ko:mg "range"=My
 OG:mg "zip"=My
 SW:mg "set"=My
 KP:mg "list"=My
 CV:mg "enumerate"=My
 AZ:mg "ValueError"=My
 vJ:CtT K mg "FEWEST_PLACES" (.int 2)
 yJ:CtT K mg "MOST_PLACES" (.int 8)
 qw:WT K mg "WalkError"
 jh:ClT K mg "Apart" [.ref qw.C]
 jN:ExT K jh.C
 M7:PySem.W.subIn K (.ref jh.C) (.ref qw.C)=kb V0
 M8:PySem.W.kitOne K (.ref jh.C) (.type "ValueError")=kb V0
 M9:CkT K mg "NoWeb" jh.C V1
 Hn:CkT K mg "NoPlace" jh.C V1
 KQ:CkT K mg "NoTree" jh.C V1
 M_:CkT K mg "NoTie" jh.C V1
 KR:CkT K mg "NoText" jh.C V1
 Ey:CkT K mg "NoNumber" jh.C V1
 Ez:CkT K mg "NoShares" jh.C V1
 Na:CkT K mg "NoTwo" jh.C V1
 EA:CkT K mg "NoStream" jh.C V1
 Ho:CkT K mg "NoPaper" jh.C V1
 Nb:CkT K mg "Apart" jh.C V0
 Hq:CkT K mg "TooMany" jh.C V1
 KS:CkT K mg "NoCode" jh.C V1
 KU:CkT K mg "NoDeed" jh.C V1
 KW:CkT K mg "NoLine" jh.C V1
section
variable {P:Program}{w:World}{K:g9}{mg:gZ}{base:Heap}
theorem vq (T:Txt K mg):OkT P w base T.o_ 1 (spD K 1 mR):=T.o_.okD (g:=w_) CP (λ _ _ _ _ _ _ hr=>(iK (i8 (ze (jx BL T.iO boot_isinstance (hV (dv 0) (hV (IJ T.SV boot_int) ie))) (BD (RM (jx BL T.iO boot_isinstance (hV (dv 0) (hV (IJ T.Q4 boot_bool) ie))))))))) BR
theorem qx (T:Txt K mg):OkT P w base T.m9 2 (spD K 2 lQ):=T.m9.okD (g:=rG) CQ (λ _ _ _ _ _ _ hr=>(iK (i8 (ze (dC T.o_ (vq T) hr (hV (dv 1) ie)) (BD (LU L5 L4 iZ (dv 1) (dv 0))))))) BZ
theorem qR (T:Txt K mg):OkT P w base T.oE 3 (spD K 2 kQ):=T.oE.okD (g:=xc) Hl (λ _ _ _ _ _ _ hr=>(iJ (lC (Ab (u9 (kU (ku (jx BL T.iO boot_isinstance (hV (dv 1) (hV (IJ T.my boot_tuple) ie))))) (pV (jK (BJ (iW hr)) (jx zj T.rh cM (hV (dv 1) ie)) iZ)))) (iK (i8 vB)) jB) (iJ (uh (dv 1) (lM rfl (i9 (pgo 2) (i9 (pgo 3) kB))) lz) (iK (i8 (ze (dC T.m9 (qx T) hr (hV (dv 0) (hV (dv 2) ie))) (ze (dC T.m9 (qx T) hr (hV (dv 0) (hV (dv 3) ie))) (BD (u7 L4 (dv 2) (dv 3)))))))))) GU
theorem rZ (T:Txt K mg):OkT P w base T.oF 1 (spD K 2 lg):=T.oF.okD (g:=qJ) rT (λ _ _ _ _ _ _ hr=>(iJ (IZ (i:=2) rT.nd rfl (csc ["a","b"] ["place"] [1]) (mQ (dv 0)) (λ _ _ _ _=>(lM rfl (i9 (pgo 0) (i9 (pgo 1) kB)))) (n4 (jy (by decide) (jy (by decide) mC))) lz (λ _ _ _ _=>(ug (jK (BH (iW hr)) (dv 1) (dv 2)))) (λ _ _ _ _=>(dv 0))) (iJ (IZ (i:=3) rT.nd rfl (csc ["a","b"] ["place"] [1]) (mQ (dv 0)) (λ _ _ _ _=>(lM rfl (i9 (pgo 0) (i9 (pgo 1) kB)))) (n4 (jy (by decide) (jy (by decide) mC))) lz (λ _ _ _ _=>(ug (jK (BH (iW hr)) (dv 0) (dv 2)))) (λ _ _ _ _=>(dv 1))) (iK (i8 (og sN T.my boot_tuple (hV (jx (Jm srt BP DM) T.ye boot_sorted (hV (lq wZ (dv 2) (dv 3)) ie)) ie))))))) DS
theorem EB (T:Txt K mg):OkT P w base T.uO 2 (spD K 1 qI):=T.uO.okD (g:=um) Et (λ _ _ _ _ _ _ hr=>(iJ (uh (dv 0) (lM rfl (i9 (pgo 1) (i9 (pgo 2) kB))) lz) (iK (i8 (vC rfl (csc ["place"] ["ties"] [2]) (qH T.ko (hV (dv 1) ie)) (λ _ _ _ _=>(pgo 0)) jQ jZ (λ _ _ _ _=>mL) (λ _ _ _ _=>(jx zj T.rh cM (hV (dC T.oF (rZ T) hr (hV (dv 1) (hV (dv 0) ie))) ie)))))))) DT
end
abbrev iV (k:Nat):V:=.int k
section
variable {P:Program}{w:World}{K:g9}{mg:gZ}{base:Heap}
structure DH (H0 H:Hp)(p e b:Addr)(st:hG×List Nat)(iQ:List Nat):Prop where
 same:iA H0 H
 np:H0 p=My
 ne':H0 e=My
 nb:H0 b=My
 pe:p≠e
 pb:p≠b
 eb:e≠b
 hp:H p=kb (.dK (kvD (kd st.1)))
 he:H e=kb (.lst (iQ.map iV))
 hb:H b=kb (.lst (st.2.map iV))
theorem DH.ext {H0 H H':Hp}{p e b:Addr}{st:hG×List Nat}{iQ:List Nat}(h:DH H0 H p e b st iQ)(s:iA H H'):DH H0 H' p e b st iQ :=
 ⟨h.same.trans s,h.np,h.ne',h.nb,h.pe,h.pb,h.eb,s _ _ h.hp,s _ _ h.he,s _ _ h.hb⟩
theorem kl {H0 H:Hp}{p:Addr}{o:HO}(s:iA H0 H)(n:H0 p=My):iA H0 (upd H p o):=λ c u h=>by rw[iI (iU h n)];exact s c u h
def dbI (K:g9):TS:=Lp (tB (E4 (iX 6) (iX 2))) (kL (NJ (iX 2) (iX 6) (tOp (rI0 λ i j=>V.int (i+j)) (NI (iX 2) (iX 5)) (tC (V.int 1)))) (Bc (tBM K "list" vM (iX 4) (iN (iX 6) jI)))) ES
def dbM (K:g9):TS:=C_ (iDT K (gI sF (ib 2 lg (hU (hW 0) (hU (hW 5) hX))))) (je 6) (dbI K)
def dbW (K:g9):TS:=kL (md (we jI) (je 4)) (kL (C_ (HQ K (iX 3)) (je 5) (dbM K)) (md (iX 4) (je 3)))
def dtW (K:g9):TT:=λ σ H Q=>iX 3 σ H λ x H'=>∃ k,Lw K x H' k/\Q k H'
def dA (K:g9):TS:=kL (md (NK [(iX 1,tC (V.int 0))]) (je 2)) (kL (md (we (iN (iX 1) jI)) (je 3)) (kL (C7 (dtW K) (dbW K)) (Gj (iX 2))))
abbrev sgD (vt:V)(st:Nat)(p e:Addr)(b pl nr:g6 V):L2.St:=[kb vt,kb (iV st),kb (.ref p),kb (.ref e),b,pl,nr]
theorem Nc {D:Ends}{vt:V}{st place near:Nat}{p e b:Addr}{H H6:Hp}{st2:hG×List Nat}{iQ:List Nat}(d6:DH H H6 p e b st2 iQ)(hpk2:place∈st2.1.map (·.1))(l1:st2.1.length<=10000)(l2:st2.2.length<=10000)
  (h:∀ H',DH H H' p e b (ji place st2 near) iQ->jS H6 H'->D.nx (sgD vt st p e (kb (.ref b)) (kb (iV place)) (kb (iV near))) H'):dbI K D (sgD vt st p e (kb (.ref b)) (kb (iV place)) (kb (iV near))) H6:=by
 refine⟨_,rfl,_,rfl,p,_,rfl,sj.k (k:=Sum.inl (near:Int)) d6.hp,_,rfl,?_⟩;rw[xh];cases hk:rb st2.1 near with
 | true =>
  rw[ae rfl];refine Gu ?_;have:ji place st2 near=st2:=by unfold ji;rw[ae hk]
  rw[this]at h;exact h H6 d6 jS.refl
 | false =>
  rw[ag ax];refine Gv ?_;have hv:ji place st2 near=(st2.1++[(near,look st2.1 place+1)],st2.2++[near]):=by unfold ji;rw[ag (by rw[hk];exact ax)]
  rw[hv]at h;have hlook:mK (kvD (kd st2.1)) (Sum.inl (place:Int))=kb (.int (look st2.1 place)):=by rw[xh,ae ((ox _ _).mpr hpk2)]
  have g1:sj H6 p (iV place) (kb (.int (look st2.1 place))):=by rw[<-hlook];exact sj.k (k:=Sum.inl (place:Int)) d6.hp
  have hll:(kvD (kd st2.1)).length<sizeLine:=by
   have:(kvD (kd st2.1)).length=st2.1.length:=by simp[kvD,kd]
   rw[sizeLine_eq];lia
  refine⟨_,rfl,_,rfl,p,_,rfl,g1,_,_,rfl,rfl,_,rfl,_,rfl,p,_,rfl,Ii.k (k:=Sum.inl (near:Int)) d6.hp hll,?_⟩;have hput:putK (kvD (kd st2.1)) (Sum.inl (near:Int)) (V.int ((look st2.1 place:Int)+1))=kvD (kd (st2.1++[(near,look st2.1 place+1)])):=by rw[<-Ju _ hk];rfl
  rw[hput];have hbb:upd H6 p (.dK (kvD (kd (st2.1++[(near,look st2.1 place+1)])))) b=kb (.lst (st2.2.map iV)):=by rw[iI (aY d6.pb)];exact d6.hb
  refine⟨_,rfl,.inl ⟨rfl,_,SqL.of hbb⟩,_,rfl,b,_,_,rfl,rfl,hbb,by rw[ak,sizeLine_eq];lia,h _ ⟨kl (kl d6.same d6.np) d6.nb,d6.np,d6.ne',d6.nb,d6.pe,d6.pb,d6.eb,?_,?_,?_⟩ ((jS.upd (by rw[d6.hp];trivial)).trans (jS.upd (by rw[hbb];trivial)))⟩
  ·rw[iI d6.pb];exact ir
  ·rw[iI d6.eb,iI (aY d6.pe)];exact d6.he
  ·rw[ir];simp[iV]
theorem Hr {K:g9}{H:Hp}:Sat K H [] []:=⟨rfl,λ _ _ h=>by cases h⟩
theorem nQ {K:g9}{H:Hp}{x:g6 V}{σ:L2.St}{δ:DE}(h:Sat K H σ δ):Sat K H (x::σ) (My::δ):=⟨cG (·+1) h.len,λ j d hj=>by
 cases j with
 | zero=>cases hj
 | succ j=>exact h.at_ j d hj⟩
theorem uS {K:g9}{H:Hp}{v:V}{d:Dt}{σ:L2.St}{δ:DE}(i:Is K H v d)(h:Sat K H σ δ):Sat K H (kb v::σ) (kb d::δ):=⟨cG (·+1) h.len,λ j d hj=>by
 cases j with
 | zero=>cases hj;exact⟨_,rfl,i⟩
 | succ j=>exact h.at_ j d hj⟩
theorem KY {K:g9}{H':Hp}{vt:V}{st place:Nat}{p e:Addr}{b nr:g6 V}{x:Dt}(i:Is K H' vt x):Sat K H' (sgD vt st p e b (kb (iV place)) nr) [kb x,My,My,My,My,kb (h_ place),My] :=
 uS i (nQ (nQ (nQ (nQ (uS (.int _) (nQ Hr))))))
theorem KZ {D:Ends}{vt:V}{st place:Nat}{p e b:Addr}{nr:g6 V}{H H':Hp}{l:hG}{st1:hG×List Nat}{iQ:List Nat}{x:Dt}(ex:dTs x=kb l)(hlen:l.length<=30)(i1:Is K H' vt x)(d1:DH H H' p e b st1 iQ)(bi1:BI (univ l st) st1)(hpk:place∈st1.1.map (·.1))(hl1:st1.2.length<=st1.1.length)
  (h:∀ nr H6,DH H H6 p e b (visit l st1 place) iQ->jS H' H6->D.nx (sgD vt st p e (kb (.ref b)) (kb (iV place)) nr) H6):dbM K D (sgD vt st p e (kb (.ref b)) (kb (iV place)) nr) H':=by
 have tk:=B0 ex hlen place;refine⟨_,(nb l place).map h_,KY i1,?_,n_.of (λ d hd=>by obtain⟨t,_,rfl⟩:=aE.mp hd;exact .int _),λ J H5 s5 ok=>?_⟩
 ·generalize (nb l place).map h_=zs at tk;simp only[h_]at tk;simp[tk,sF,h_]
 ·have d5:=d1.ext s5
  refine B5 ok (λ j σ' H'=>∃ (nr:g6 V),σ'=sgD vt st p e (kb (.ref b)) (kb (iV place)) nr/\DH H H' p e b (((nb l place).take j).foldl (ji place) st1) iQ/\jS H5 H')
   ⟨nr,rfl,d5,jS.refl⟩ (λ j σ' H' _ z=>by obtain⟨_,_,_,t⟩:=z;exact t) ?_ ?_
  ·rintro j dd xv σ' H6 hj ixv ⟨nr,rfl,d6,t6⟩
   rw[aD]at hj;cases hnr:(nb l place)[j]? with
   | none=>rw[hnr]at hj;cases hj
   | some near =>
    rw[hnr]at hj;cases hj;have hx:=ixv.int_inv;subst hx;have hst3:((nb l place).take (j+1)).foldl (ji place) st1=ji place (((nb l place).take j).foldl (ji place) st1) near:=by rw[fk,hnr,List.foldl_append];rfl
    have hpk2:=mD (f:=ji place) (λ st p k hk=>p_ hk) ((nb l place).take j) st1 place hpk;have bi2:BI (univ l st) (((nb l place).take j).foldl (ji place) st1):=sZ _ (λ x hx _ hs=>zo hs (Fz (List.mem_of_mem_take hx))) bi1;have hl2:=qa (f:=ji place) (λ _ _=>xi) ((nb l place).take j) st1;have hle:=bi2.le;rw[s9]at hle;generalize ((nb l place).take j).foldl (ji place) st1=st2 at d6 hst3 hpk2 hl2 hle;refine Nc d6 hpk2 (by lia) (by lia) λ H7 d7 t7=>⟨_,rfl,?_,t6.trans t7⟩;rw[hst3];exact d7
  ·rintro σ' H6 ⟨nr,rfl,d6,t6⟩;rw[ak,fx]at d6;exact h _ _ d6 (s5.text.trans t6)
theorem EC {D:Ends}{vt:V}{st:Nat}{p e:Addr}{b0 pl0 nr0:g6 V}{H H2:Hp}{l fd:hG}{iQ:List Nat}{x:Dt}(ex:dTs x=kb l)(hlen:l.length<=30)(i1:Is K H vt x)(s2:iA H H2)(hp:H p=My)(he:H e=My)(hpe:p≠e)
  (gp:H2 p=kb (.dK (kvD (kd fd)))) (ge:H2 e=kb (.lst (iQ.map iV))) (bi:BI (univ l st) (fd,iQ))
  (h:∀ b pl nr H',iA H H'->H b=My->p≠b->H' p=kb (.dK (kvD (kd (j9 l fd iQ).1)))->H' b=kb (.lst ((j9 l fd iQ).2.map iV))->D.nx (sgD vt st p b (kb (.ref b)) pl nr) H'):dbW K D (sgD vt st p e b0 pl0 nr0) H2:=by
 refine⟨aZ _,λ b hb=>?_⟩;have hbp:p≠b:=λ z=>by subst z;rw[hb]at gp;cases gp
 have hbe:e≠b:=λ z=>by subst z;rw[hb]at ge;cases ge
 have hb0:H b=My:=s2.free hb;have d0:DH H (upd H2 b (.lst [])) p e b (fd,[]) iQ:=⟨kl s2 hb0,hp,he,hb0,hpe,hbp,hbe,by rw[iI hbp];exact gp,by rw[iI hbe];exact ge,ir⟩;refine⟨_,rfl,e,rfl,⟨_,SqL.of d0.he⟩,HS (K:=K) (a:=e) (xs:=iQ.map iV) (λ i σ' H'=>∃ (pl nr:g6 V),σ'=sgD vt st p e (kb (.ref b)) pl nr/\DH H H' p e b ((iQ.take i).foldl (visit l) (fd,[])) iQ/\jS H H')
  ⟨pl0,nr0,rfl,d0,d0.same.text⟩ (λ i σ' H' _ z=>by obtain⟨_,_,_,d,_⟩:=z;exact SqL.of d.he) ?_ ?_⟩
 ·clear d0 gp ge s2
  rintro i xv σ' H' hi ⟨pl,nr,rfl,d1,t1⟩;rw[aD]at hi;cases hpl:iQ[i]? with
  | none=>rw[hpl]at hi;cases hi
  | some place =>
   rw[hpl]at hi;cases hi;have hst':(iQ.take (i+1)).foldl (visit l) (fd,[])=visit l ((iQ.take i).foldl (visit l) (fd,[])) place:=by rw[fk,hpl,List.foldl_append];rfl
   have bi1:BI (univ l st) ((iQ.take i).foldl (visit l) (fd,[])):=sZ _ (λ _ _ _ hs=>B6 hs) ⟨bi.nd,bi.sub,by simp⟩;have hpk:place∈((iQ.take i).foldl (visit l) (fd,[])).1.map (·.1):=mD (f:=visit l) (λ st p k hk=>rH st k hk) _ (fd,[]) place (bi.by' place (bc hpl));have hl1:=qa (f:=visit l) (λ st p=>zq st) (iQ.take i) (fd,[]);generalize (iQ.take i).foldl (visit l) (fd,[])=st1 at d1 hst' bi1 hpk hl1;refine KZ ex hlen (i1.ext d1.same) d1 bi1 hpk (by simp at hl1;lia) λ nr H6 d6 t6=>⟨_,_,rfl,?_,t1.trans t6⟩;rw[hst'];exact d6
 ·rintro σ' H' ⟨pl,nr,rfl,d1,t1⟩;rw[ak,fx]at d1;exact⟨_,rfl,h b pl nr H' d1.same hb0 hbp d1.hp d1.hb⟩
def dI1 (vt:V)(st:Nat)(l:hG)(H:Hp):Nat->L2.St->Hp->Prop:=λ m σ H2=>∃ (fd:hG) (iQ:List Nat) (p e:Addr) (b pl nr:g6 V),σ=sgD vt st p e b pl nr/\iA H H2/\H p=My/\H e=My/\p≠e/\H2 p=kb (.dK (kvD (kd fd)))/\H2 e=kb (.lst (iQ.map iV)) /\
  BI (univ l st) (fd,iQ)/\nB l m fd iQ=bfs l st/\(iQ≠[]->2*l.length+3<=m+fd.length)
def dI2 (vt:V)(st:Nat)(l fd:hG)(iQ:List Nat)(H:Hp):L2.St->Hp->Prop:=λ σ' H'=>∃ (p b:Addr) (pl nr:g6 V),σ'=sgD vt st p b (kb (.ref b)) pl nr/\iA H H'/\H p=My/\H b=My/\p≠b/\H' p=kb (.dK (kvD (kd (j9 l fd iQ).1)))/\H' b=kb (.lst ((j9 l fd iQ).2.map iV))
theorem Hs {D:Ends}{vt:V}{st:Nat}{H:Hp}{l:hG}{x:Dt}(ex:dTs x=kb l)(hlen:l.length<=30)(i1:Is K H vt x)(q:∀ v H',iA H H'->Is K H' v (.dct (kd (bfs l st)))->D.rt v H')(m:Nat)(σ:L2.St)(H2:Hp)(z:dI1 vt st l H m σ H2) :
  dtW K σ H2 λ b H1=>if b=V0 then ∃ N:L2.St->Hp->Prop,(∀ σ' H',N σ' H'->∃ m',m'<m/\dI1 vt st l H m' σ' H')/\dbW K {D with nx:=N,ct:=N,bk:=Gj (iX 2) D} σ H1 else Gj (iX 2) D σ H1:=by
 obtain⟨fd,iQ,p,e,b0,pl0,nr0,rfl,s2,hp,he,hpe,gp,ge,bi,hm,hf⟩:=z;refine⟨_,rfl,!(iQ.map iV).isEmpty,.inl ⟨_,SqL.of ge,rfl⟩,?_⟩;cases hedge:iQ with
 | nil =>
  subst hedge;refine Gu ?_;refine⟨_,rfl,q _ H2 s2 (.dct (.inl ?_))⟩;rw[<-hm];have:nB l m fd []=fd:=by cases m<;>rfl
  rw[this];exact gp
 | cons e0 es =>
  refine Gv ?_;have hne:iQ≠[]:=by rw[hedge];simp
  have hf:=hf hne;have hle:=bi.le;rw[s9]at hle;have hle:fd.length<=2*l.length+1:=hle;obtain⟨m',rfl⟩:∃ m',m=m'+1:=⟨m-1,by lia⟩;have hstep:nB l (m'+1) fd iQ=nB l m' (j9 l fd iQ).1 (j9 l fd iQ).2:=by rw[hedge];rfl
  rw[hstep]at hm;refine⟨dI2 vt st l fd iQ H,?_,?_⟩
  ·rintro σ' H' ⟨p,b,pl,nr,rfl,s3,hp,hb,hpb,gp,gb⟩;have lb:=xj (iQ:=iQ) (l:=l) (fd:=fd) ⟨bi.nd,bi.sub,by simp⟩;refine⟨m',by lia,_,_,p,b,kb (.ref b),pl,nr,rfl,s3,hp,hb,hpb,gp,gb,⟨lb.nd,lb.sub,lb.by'⟩,hm,λ hb'=>?_⟩;have:=ur (l:=l) (fd:=fd) (iQ:=iQ);have:0<(j9 l fd iQ).2.length:=de.mpr hb';lia
  ·exact EC ex hlen i1 s2 hp he hpe gp ge bi λ b pl nr H' s3 hb hpb gp gb=>⟨p,b,pl,nr,rfl,s3,hp,hb,hpb,gp,gb⟩
theorem K0 {D:Ends}{vt:V}{st:Nat}{H:Hp}{l:hG}{x:Dt}(ex:dTs x=kb l)(hlen:l.length<=30)(i1:Is K H vt x)(q:∀ v H',iA H H'->Is K H' v (.dct (kd (bfs l st)))->D.rt v H'):dA K D [kb vt,kb (iV st),My,My,My,My,My] H:=by
 intro p hp;refine⟨_,rfl,ir,[(Sum.inl (st:Int),.int 0)],rfl,by simp,?_⟩;refine⟨_,rfl,by show 1<=sizeLine;decide,λ e he=>?_⟩;have hp0:upd (upd H p (.dK [])) p (.dK (tY [] [(Sum.inl (st:Int),V.int 0)]))=upd H p (.dK (kvD (kd [(st,0)]))):=by rw[Ll];rfl
 rw[hp0]at he ⊢;have hpe:p≠e:=λ z=>by subst z;rw[ir]at he;cases he
 have he0:H e=My:=by rw[iI (aY hpe)]at he;exact he
 refine⟨dI1 vt st l H,⟨2*l.length+2,[(st,0)],[st],p,e,My,My,My,rfl,kl (kl (iA.refl H) hp) he0,hp,he0,hpe,by rw[iI hpe];exact ir,ir,⟨by simp,λ q hq=>by rw[aN.mp hq];exact av,λ j hj=>by simpa using hj⟩,rfl,λ _=>by simp⟩,?_⟩;exact λ m σ H2 z=>Hs ex hlen i1 q m σ H2 z
set_option tactic.hygienic true in
theorem A0 (T : Txt K mg) : OkT P w base T.qp 2 (spD K 2 nC) := by
  refine T.qp.F.ok lG (λ vs H Q E h => ?_) (λ cdv A outer s H vs Q E hr h => ?_)
  · obtain⟨ds, d, hl, is, _⟩ := h
    rw[is.length, hl]; rfl
  · obtain⟨ds, d, hl, is, e, q⟩ := h
    match ds, e with
    | [x, y], e =>
      obtain⟨l, e1, e⟩ := hZ (show(dTs x).bind _ = _ from e);obtain⟨st, e2, e⟩ := hZ e;split at e
      · rename_i hlen
        cases e;have e2 := jd e2;subst e2;obtain⟨vt, v2, rfl, i1, i2⟩ := is.two;have hv2 := i2.int_inv;subst hv2;have hu := NM hr;refine⟨dA K, iH (jn (i := 2) lG.nd rfl (Or.inl rfl) (E7 (Bp (pv 1) iS E6) rfl rfl (by simp) (by decide)))
          (iH (jn (i := 3) lG.nd rfl (Or.inl rfl) (lx (ic (pv 1) iM)))
          (iH (v9 bD (Bi (pv 3) (λ _ => rfl))
            (iH (jn (i := 4) lG.nd rfl (Or.inl rfl) (lx iM))
            (iH (oH bD rfl (zO (pv 3)) (pgo 5)
              (jc (oH bD rfl (Fy (dC T.oF (rZ T) hr (hV (dv 0) (hV (dv 5) ie)))) (pgo 6)
                (jc (uW (HJ (Gs hu (pv 6) (pv 2)) (by with_unfolding_all rfl)) (iH (LF hu (pv 2) (pv 6) (jD nN (E5 hu (pv 2) (pv 5) (λ _ _ => rfl)) iS) rfl)
                  (jc (r_ (wo cY eU eV tX (pv 4) (ic (pv 6) iM))))) ml)))))
            (jc (jn (i := 3) lG.nd rfl (Or.inl rfl) (pv 4))))))
          (jc (lu (pv 2))))), ?_⟩
        exact K0 e1 (by lia) i1 q
      · cases e
end
section
variable {P:Program}{w:World}{K:g9}{mg:gZ}{base:Heap}
def K1 (K:g9):Sp:=λ vs H Q _=>∃ (a:Addr) (ns:List Int) (k:Nat),vs=[.ref a,.int k]/\SqL K H a (ns.map V.int)/\ns.length<=63/\∀ c,Q (.int c) H
theorem Nd (T:Txt K mg):OkT P w base T.nc 1 (K1 K):=by
 refine T.nc.F.ok vH (λ vs H Q E h=>?_) (λ cdv A outer s H vs Q E hr h=>?_)
 ·obtain⟨a,ns,k,rfl,_⟩:=h;rfl
 ·obtain⟨a,ns,k,rfl,hS,hl,q⟩:=h
  refine⟨_,iH (uW (vL NC (pv 1) (kO mr (by rfl) T.rh cM (ic (pv 0) iM)) (wa _)) (jc (lu (nY lV (pv 0) (pv 1) (λ _ _=>rfl)))) ml) (jc (lu iS)),?_⟩;refine⟨_,rfl,_,rfl,a,_,rfl,.inl hS,_,_,rfl,rfl,_,rfl,?_⟩;refine Ph (λ hc=>?_) (λ _=>q 0);have hk:k<ns.length:=by have:=of_decide_eq_true hc;rw[ak]at this;lia
  exact⟨_,rfl,_,rfl,a,_,_,.int ns[k],rfl,rfl,hS,by unfold atI ixN;rw[ae (by lia),ae (by rw[ak];lia)];simp[hk],q _⟩
def pz:Sp:=λ vs H Q _=>∃ (p:Addr) (n far:Int),vs=[.ref p,.int far]/\H p=kb (.lst [.int n])/\0<far/\far<1073741824/\Q (.int (n % far)) (upd H p (.lst [.int (n / far)]))
theorem mz (T:Txt K mg):OkT P w base T.jw 1 pz:=by
 refine T.jw.F.ok tL (λ vs H Q E h=>?_) (λ cdv A outer s H vs Q E hr h=>?_)
 ·obtain⟨p,n,far,rfl,_⟩:=h;rfl
 ·obtain⟨p,n,far,rfl,hp,h0,h1,q⟩:=h
  refine⟨_,iH (jn (i:=2) tL.nd rfl (Or.inl rfl) (jD tV (nY lV (pv 0) iS (λ _ _=>rfl)) (pv 1)))
   (iH (tT (jD Lu (nY lV (pv 0) iS (λ _ _=>rfl)) (pv 1)) (zN (pv 0) iS set_list))
   (jc (lu (pv 2)))),?_⟩
  refine⟨_,rfl,p,_,_,.int n,rfl,rfl,SqL.of hp,rfl,_,rfl,_,_,rfl,rfl,h0,?_⟩;refine⟨_,rfl,p,_,_,.int n,rfl,rfl,SqL.of hp,rfl,_,rfl,_,_,rfl,rfl,⟨h0,h1⟩,_,rfl,p,_,_,0,rfl,rfl,hp,rfl,_,rfl,?_⟩;exact q
def OH:Sp:=λ vs H Q _=>∃ c:Int,vs=[.int c]/\∀ (p:Addr) (n:Int),H p=My->Q (.ref p) (upd H p (.lst [.int n]))
theorem Q5 (T:Txt K mg):OkT P w base T.rX 1 OH:=by
 refine T.rX.F.ok l_ (λ vs H Q E h=>?_) (λ cdv A outer s H vs Q E hr h=>?_)
 ·obtain⟨c,rfl,_⟩:=h;rfl
 ·obtain⟨c,rfl,q⟩:=h
  refine⟨_,iH (uW (vL ND (pv 0) (jD HU iS iS) (wa _)) (jc (lu (lx (ic (jD v_ (pv 0) (jD HU iS iS)) iM)))) ml)
   (iH (jn (i:=1) l_.nd rfl (Or.inl rfl) iS)
   (iH (oH bD rfl (mB rfl T.ko (ic iS iM)) (pgo 2)
    (iH (jn (i:=3) l_.nd rfl (Or.inl rfl) (jD tV (jD tU (jD nN (jD nN (jD tV (pv 0) iS) (jD tU iS (pv 2))) iS) iS) iS))
    (iH (jn (i:=3) l_.nd rfl (Or.inl rfl) (jD tV (jD nN (jD nN (jD tU (pv 3) (pv 3)) (jD tU iS (pv 2))) iS) iS))
    (jc (jn (i:=1) l_.nd rfl (Or.inl rfl) (jD nN (jD tU (pv 1) iS) (pv 3)))))))
   (jc (lu (lx (ic (pv 1) iM)))))),?_⟩
  refine⟨_,rfl,_,_,rfl,rfl,⟨by decide,by decide,by decide⟩,_,_,rfl,rfl,_,rfl,?_⟩;refine Ph (λ _=>?_) (λ _=>?_)
  ·exact⟨_,rfl,_,_,rfl,rfl,⟨by decide,by decide,by decide⟩,_,_,rfl,rfl,by show 1<=sizeLine;decide,λ l hl=>q l _ hl⟩
  ·refine⟨64,rfl,by decide,by decide,nV (n:=64) (λ i σ H'=>H'=H/\∃ (n:Int) (a b:g6 V),σ=[kb (.int c),kb (.int n),a,b]) ⟨rfl,0,My,My,rfl⟩ ?_ ?_⟩
   ·rintro i σ H' hi ⟨rfl,n,a,b,rfl⟩
    refine⟨_,rfl,_,_,rfl,rfl,(by show(0:Int)<2147483629;decide),_,rfl,_,_,rfl,rfl,.inl ⟨by decide,by decide⟩,_,_,rfl,rfl,_,_,rfl,rfl,_,_,rfl,rfl,.inr ⟨by decide,by decide⟩,_,_,rfl,rfl,(by show(0:Int)<2147483647;decide),?_⟩;generalize hmx:((c % 2147483629+7919*(0+(i:Int))+1)*48271) % 2147483647=mx;have h0:0<=mx:=by rw[<-hmx];exact bU _ (by decide)
    have h1:mx<2147483647:=by rw[<-hmx];exact cS _ (by decide)
    refine⟨_,rfl,_,rfl,_,_,rfl,rfl,.inl ⟨by lia,by lia⟩,_,rfl,_,_,rfl,rfl,.inl ⟨by decide,by decide⟩,_,_,rfl,rfl,_,_,rfl,rfl,_,_,rfl,rfl,(by show(0:Int)<2147483587;decide),?_⟩;refine⟨_,rfl,_,_,rfl,rfl,.inr ⟨by decide,by decide⟩,_,rfl,_,_,rfl,rfl,?_⟩;exact⟨rfl,_,_,_,rfl⟩
   ·rintro σ H' ⟨rfl,n,a,b,rfl⟩;exact⟨_,rfl,by show 1<=sizeLine;decide,λ l hl=>q l _ hl⟩
end
def But (p:Addr)(H H':Hp):Prop:=∀ b o,H b=kb o->b≠p->H' b=kb o
theorem But.refl (p:Addr)(H:Hp):But p H H:=λ _ _ h _=>h
theorem But.A1 {p:Addr}{H H':Hp}{o:HO}(h:But p H H'):But p H (upd H' p o):=λ b u e n=>by rw[iI n];exact h b u e n
theorem But.new {p q:Addr}{H H':Hp}{o:HO}(h:But p H H')(hq:H q=My):But p H (upd H' q o):=λ b u e n=>by rw[iI (iU e hq)];exact h b u e n
theorem But.none {p q:Addr}{H H':Hp}(h:But p H H')(hn:H' q=My)(hp:q≠p):H q=My:=by
 cases e:H q with
 | none=>rfl
 | some o=>rw[h q o e hp]at hn;cases hn
theorem yf {α:Type}:∀ (L:List α) {j:Nat} (h:j<L.length),(L[j]::L.eraseIdx j).Perm L
 | a::r,0,h=>.refl _
 | a::r,j+1,h=>by have ih:=yf r (j:=j) (by simpa using h);show(r[j]'(by simpa using h)::a::r.eraseIdx j).Perm (a::r);exact(List.Perm.swap _ _ _).trans (ih.cons a)
theorem zL {α β:Type}(f:α->β):∀ (L:List α) (j:Nat),(L.map f).eraseIdx j=(L.eraseIdx j).map f
 | [],_=>rfl
 | a::r,0=>rfl
 | a::r,j+1=>by show f a::(r.map f).eraseIdx j=f a::(r.eraseIdx j).map f;rw[zL f r j]
theorem OI {xs:List Nat}{j:Nat}(h:j<xs.length):atI (xs.map iV) (j:Int)=kb (iV (xs.getD j 0)):=by refine oK ?_;rw[aD,aA,aH h];rfl
def TN (H:Hp)(vs:List V)(l:hG):Prop:=GG H vs (l.map λ t=>[(t.1:Int),(t.2:Int)])
theorem TN.text {H H':Hp}{vs:List V}{l:hG}(h:TN H vs l)(e:jS H H'):TN H' vs l:=Paired.imp' (λ _ _ ⟨b,e1,e2⟩=>⟨b,e1,e.pJ _ _ e2⟩) h
theorem TN.len {H:Hp}{vs:List V}{l:hG}(h:TN H vs l):vs.length=l.length:=by have:=fI h;simpa using this
theorem TN.snoc {H:Hp}{vs:List V}{l:hG}{b:Addr}{t:Nat×Nat}(h:TN H vs l)(hb:H b=kb (.tup [.int t.1,.int t.2])):TN H (vs++[.ref b]) (l++[t]):=by unfold TN at *;rw[bp];exact gq h ⟨b,rfl,hb⟩
theorem TN.get {H:Hp}{vs:List V}{l:hG}(h:TN H vs l){i:Nat}{v:V}(e:vs[i]?=kb v):∃ t b,l[i]?=kb t/\v=.ref b/\H b=kb (.tup [.int t.1,.int t.2]):=by
 obtain⟨k,hk,b,e1,e2⟩:=ub h i v e;rw[aD]at hk;cases ht:l[i]? with
 | none=>rw[ht]at hk;cases hk
 | some t=>rw[ht]at hk;cases hk;exact⟨t,b,rfl,e1,e2⟩
theorem CW {K:g9}{H:Hp}{ws:List V}{l:hG}(h:TN H ws l):Iss K H ws (l.map iq):=by
 induction l generalizing ws with
 | nil=>cases h;exact .nil
 | cons t r ih =>
  cases h with
  | cons h1 h2 =>obtain⟨b,rfl,hb⟩:=h1;exact .cons (.tup (SqT.of hb) (.cons (.int _) (.cons (.int _) .nil))) (ih h2)
theorem Ht {ks:List (List Int)}{l:hG}(h:∀ k∈ks,k∈l.map λ t=>[(t.1:Int),(t.2:Int)]):(ks.map λ k=>(k.getD 0 0,k.getD 1 0)).map (λ(k:Int×Int)=>[k.1,k.2])=ks:=by
 rw[aR];conv=>rhs;rw[<-fM ks]
 refine aL λ k hk=>?_;obtain⟨t,_,rfl⟩:=aE.mp (h k hk);rfl
section
variable {P:Program}{w:World}{K:g9}{mg:gZ}{base:Heap}
def OJ (K:g9):Sp:=λ vs H Q _=>∃ (p:Addr) (n:Int) (thick:Nat),vs=[.ref p,.int 7,.int thick]/\thick<=1/\H p=kb (.lst [.int n]) /\
 ∀ v H' (n':Int) (w:Web),Good w->(thick=0->w.2.length+1=w.1)->Is K H' v (ip w)->H' p=kb (.lst [.int n'])->But p H H'->Q v H'
def Q6 (K:g9):List V->Hp->VK->Prop:=λ xs H Q=>∃ p ys,xs=[.ref p]/\(SqL K H p ys\/SqT K H p ys)/\Q (.int ys.length) H
def Q7:List V->Hp->VK->Prop:=λ xs H Q=>∃ i j,xs=[.int i,.int j]/\Q (.int (if j<i then j else i)) H
def Q8:List V->Hp->VK->Prop:=λ xs H Q=>∃ i j,xs=[.int i,.int j]/\Q (.int (if j>i then j else i)) H
def Q9:List V->Hp->VK->Prop:=λ xs H Q=>∃ (r:Addr) (n:Nat),xs=[V.ref r]/\H r=kb (HO.rng 0 (n:Int))/\n<=1000/\∀ (p:Addr),H p=My->Q (V.ref p) (upd H p (HO.lst (List.map (λ(i:Nat)=>V.int (i:Int)) (V2 n))))
def SX:List V->Hp->VK->Prop:=λ xs H Q=>∃ (j:Int),xs=[V.int j]/\∀ (p:Addr),H p=My->Q (V.ref p) (upd H p (HO.rng 0 j))
def Q_ (K:g9):List V->Hp->VK->Prop:=λ xs H Q=>∃ p ys,xs=[V.ref p]/\((SqL K H p ys/\∀ (l:Addr),H l=My->Q (V.ref l) (upd H l (HO.tup ys)))\/SqT K H p ys/\Q (V.ref p) H)
def Nf (w:World):List V->Hp->VK->Prop:=λ xs H Q=>∃ (S:Addr) (kk:List (Int×Int)),xs=[V.ref S]/\LR w H S (List.map (λ(k:Int×Int)=>[k.1,k.2]) kk)/\kk.length<64/\∀ (p:Addr) (ws:List V) (ss:List (Int×Int)),H p=My->GG H ws (List.map (λ(k:Int×Int)=>[k.1,k.2]) ss)->List.Pairwise (λ a b=>Tb.pLt a b=V0) ss->ss.Perm kk->Q (V.ref p) (upd H p (HO.lst ws))
def Vh (K:g9)(w:World):List V->Hp->VK->Prop:=λ xs H Q=>∃ (l:Addr) (vs:List V) (kk:List (List Int)),xs=[V.ref l]/\SqL K H l vs/\GG H vs kk/\vs.length<=40/\∀ (S:Addr) (o:HO) (ks:List (List Int)),H S=My->LR w (upd H S o) S ks->(∀ (k:List Int),k∈ks↔k∈kk)->Q (V.ref S) (upd H S o)
def wF (K:g9)(w:World):TS:=Gj (Gm (iN (iX 3) (iN (tCB (Q_ K) (iN (tCB (Nf w) (iN (tCB (Vh K w) (iN (iX 8) jI)) jI)) jI)) jI)))
def eN (K:g9):TE:=Gm (iN (tCB Q7 (iN (tOp (wm K) (iX 2) (iX 0)) (iN (tOp (wm K) (iX 2) (iX 1)) jI))) (iN (tCB Q8 (iN (tOp (wm K) (iX 2) (iX 0)) (iN (tOp (wm K) (iX 2) (iX 1)) jI))) jI))
def wE (K:g9)(w:World):TS:=kL (λ D σ H=>tLC ["_law_one","_law_other"] [7] (HQ K (iX 8)) (Bf K 2 (nu (je 0) (nu (je 1) Bd))) IB (eN K) σ H λ v H'=>D.nx (List.set σ 8 (kb v)) H') (wF K w)
def b2 (K:g9):TS:=kL (md (mf pz [] E0 (iN (iX 0) (iN (iX 3) jI))) (je 12)) (kL (md (mf pz [] E0 (iN (iX 0) (iN (iX 3) jI))) (je 13)) (Lp (HW (tOp rNe (iX 12) (iX 13))) (Bc (tBM K "list" vM (iX 8) (iN (Gm (iN (iX 12) (iN (iX 13) jI))) jI))) ES))
def wD (K:g9)(w:World):TS:=kL (C_ (ET (iN (iX 5) jI)) (je 11) (b2 K)) (wE K w)
def b1 (K:g9):TS:=kL (md (mf pz [] E0 (iN (iX 0) (iN (iX 9) jI))) (je 10)) (Bc (tBM K "list" vM (iX 8) (iN (Gm (iN (tOp (wm K) (we (iN (tOp (rI0 λ i j=>V.int (i-j)) (iX 9) (tC (V.int 1))) (iN (iX 10) (iN (iX 10) (iN (tC (V.int 0)) jI))))) (iX 4)) (iN (iX 9) jI))) jI)))
def wC (K:g9)(w:World):TS:=kL (md (we jI) (je 8)) (kL (C_ (NB (iN (tC (V.int 1)) (iN (iX 3) jI))) (je 9) (b1 K)) (wD K w))
def eC (K:g9):TE:=tBM K "list" Dn (iX 1) (iN (mf pz [] E0 (iN (iX 2) (iN (tCB (Q6 K) (iN (iX 1) jI)) jI))) jI)
def wB (K:g9)(w:World):TS:=kL (md (tLC ["_law_turn"] [6,0] (ET (iN (iX 3) jI)) (je 0) IB (eC K)) (je 7)) (wC K w)
def wA (K:g9)(w:World):TS:=kL (md (tOp (rI0 λ i j=>V.int (i+j)) (tC (V.int 2)) (mf pz [] E0 (iN (iX 0) (iN (tOp (rI0 λ i j=>V.int (i-j)) (iX 1) (tC (V.int 1))) jI)))) (je 3)) (kL (md (mf pz [] E0 (iN (iX 0) (iN (tC (V.int 4)) jI))) (je 4)) (kL (md (tOp (rI Ls λ i j=>V.int (i*j)) (tOp (wm K) (we (iN (tC (V.int 0)) (iN (tC (V.int 1)) (iN (tC (V.int 2)) (iN (tC (V.int 12)) jI))))) (mf pz [] E0 (iN (iX 0) (iN (tC (V.int 4)) jI)))) (iX 2)) (je 5)) (kL (md (tCB Q9 (iN (tCB SX (iN (iX 3) jI)) jI)) (je 6)) (wB K w))))
def QW (K:g9)(p:Addr)(H:Hp)(thick:Nat)(rt:VK):Prop:=∀ v H' (n':Int) (w:Web),Good w->(thick=0->w.2.length+1=w.1)->Is K H' v (ip w)->H' p=kb (.lst [.int n'])->But p H H'->rt v H'
abbrev sgW (p:Addr)(thick m sh extra:Nat)(lf cl ti:V)(pl dr tu on ot:g6 V):L2.St:=[kb (.ref p),kb (.int 7),kb (iV thick),kb (iV m),kb (iV sh),kb (iV extra),kb lf,kb cl,kb ti,pl,dr,tu,on,ot]
theorem Ra {m:Nat}{xs:List Nat}{tb te:hG}{ss:List (Int×Int)}(Dr:Drawn m xs tb te)(hpw:ss.Pairwise λ a b=>Tb.pLt a b=V0)(memss:∀ k,k∈ss↔∃ t∈(tb++te).map (rel xs),k=((t.1:Int),(t.2:Int))) :
  Good (m,ss.map λ k=>(k.1.toNat,k.2.toNat))/\(te=[]->(ss.map λ k=>(k.1.toNat,k.2.toNat)).length+1=m):=by
 refine Mn Dr (ss:=ss.map λ k=>(k.1.toNat,k.2.toNat)) ?_ λ t=>?_
 ·rw[bM];refine dX ?_ hpw;intro a b ha hb hab;obtain⟨t,_,rfl⟩:=(memss a).mp ha;obtain⟨u,_,rfl⟩:=(memss b).mp hb;rw[Tb.qC]at hab;rw[mV];simp at hab ⊢;lia
 ·rw[aE]
  constructor
  ·rintro⟨k,hk,rfl⟩;obtain⟨u,hu,rfl⟩:=(memss k).mp hk;simpa using hu
  ·intro ht;exact⟨((t.1:Int),(t.2:Int)),(memss _).mpr ⟨t,ht,rfl⟩,by simp⟩
theorem Ng {H:Hp}{ws:List V}{ss:List (Int×Int)}{l:hG}(memss:∀ k,k∈ss↔∃ t∈l,k=((t.1:Int),(t.2:Int)))(htups:GG H ws (ss.map λ k=>[k.1,k.2])):TN H ws (ss.map λ k=>(k.1.toNat,k.2.toNat)):=by
 have back:(ss.map λ k=>(k.1.toNat,k.2.toNat)).map (λ t=>((t.1:Int),(t.2:Int)))=ss:=by
  rw[aR];conv=>rhs;rw[<-fM ss]
  refine aL λ k hk=>?_;obtain⟨t,_,rfl⟩:=(memss k).mp hk;simp
 unfold TN;have:(ss.map λ k=>(k.1.toNat,k.2.toNat)).map (λ t=>[(t.1:Int),(t.2:Int)])=ss.map λ k=>[k.1,k.2]:=by
  conv=>rhs;rw[<-back]
  rw[aR,aR,aR];rfl
 rw[this];exact htups
theorem SY {D:Ends}{σ:L2.St}{p:Addr}{H:Hp}{thick m:Nat}{xs:List Nat}{tb te:hG}{q0:Addr}{H8:Hp}{ys:List V}{n7:Int}(q:QW K p H thick D.rt)(Dr:Drawn m xs tb te)(hte:thick=0->te=[])
  (h3:σ[3]?=kb (kb (iV m))) (h8:σ[8]?=kb (kb (.ref q0))) (y8:H8 q0=kb (.lst ys)) (tn8:TN H8 ys ((tb++te).map (rel xs))) (p8:H8 p=kb (.lst [.int n7])) (b8:But p H H8) (yl:(tb++te).length<=19):wF K w D σ H8:=by
 have hyl:=tn8.len;rw[ak]at hyl;refine⟨_,h3,_,h8,q0,ys,_,rfl,SqL.of y8,tn8,by lia,λ S o ks hS hset hmem=>?_⟩;have s1:iA H8 (upd H8 S o):=iA.upd hS;have S0:H S=My:=b8.none hS (aY (iU p8 hS));have b9:But p H (upd H8 S o):=b8.new S0;have p9:=s1 _ _ p8;have ndks:ks.Nodup:=by obtain⟨_,_,_,_,_,_,_,_,_,_,_,nd,_⟩:=hset;exact nd
 generalize upd H8 S o=H9 at b9 p9 hset;have frm:=Ht λ k hk=>(hmem k).mp hk;have ksl:ks.length<=19:=by have:=aP ndks λ k hk=>(hmem k).mp hk;rw[ak,ak]at this;lia
 refine⟨S,ks.map λ k=>(k.getD 0 0,k.getD 1 0),rfl,by rw[frm];exact hset,by rw[ak];lia,λ sp ws ss hsp htups hpw hperm=>?_⟩;have sp0:H sp=My:=b9.none hsp (aY (iU p9 hsp));refine⟨sp,ws,rfl,.inl ⟨SqL.of ir,λ tp htp=>?_⟩⟩;have s2:iA H9 (upd (upd H9 sp (.lst ws)) tp (.tup ws)):=(iA.upd hsp).trans (iA.upd htp);have ntsp:tp≠sp:=λ z=>by rw[z,ir]at htp;cases htp
 have htp9:H9 tp=My:=by rw[iI ntsp]at htp;exact htp
 have tp0:H tp=My:=b9.none htp9 (aY (iU p9 htp9));have b10:But p H (upd (upd H9 sp (.lst ws)) tp (.tup ws)):=(b9.new sp0).new tp0;have p10:=s2 _ _ p9;have memss:∀ k,k∈ss↔∃ t∈(tb++te).map (rel xs),k=((t.1:Int),(t.2:Int)):=λ k=>by
  rw[hperm.mem_iff,aE];constructor
  ·rintro⟨l0,hl0,rfl⟩;obtain⟨t,ht,rfl⟩:=aE.mp ((hmem l0).mp hl0);exact⟨t,ht,rfl⟩
  ·rintro⟨t,ht,rfl⟩;exact⟨[(t.1:Int),(t.2:Int)],(hmem _).mpr (aE.mpr ⟨t,ht,rfl⟩),rfl⟩
 obtain⟨hgood,hthin⟩:=Ra Dr hpw memss;have hI:Is K (upd (upd H9 sp (.lst ws)) tp (.tup ws)) (.ref tp) _:=Is.tup (SqT.of ir) (CW ((Ng memss htups).text s2.text));generalize upd (upd H9 sp (.lst ws)) tp (.tup ws)=H10 at b10 p10 hI;refine⟨by show 2<=sizeLine;decide,λ fin hfin=>?_⟩;have s3:iA H10 (upd H10 fin (.tup [.int m,.ref tp])):=iA.upd hfin;have f0:H fin=My:=b10.none hfin (aY (iU p10 hfin));exact q _ _ n7 (m,ss.map λ k=>(k.1.toNat,k.2.toNat)) hgood (λ h0=>hthin (hte h0)) (.tup (SqT.of ir) (.cons (.int _) (.cons (hI.ext s3) .nil))) (s3 _ _ p10) (b10.new f0)
theorem S6 {ti:Addr}{Q:VK}{σ:L2.St}{xs:List Nat}{m:Nat}{cl:Addr}{t:Nat×Nat}{H':Hp}(h0:σ[0]?=kb (kb (iV t.1)))(h1:σ[1]?=kb (kb (iV t.2)))(h2:σ[2]?=kb (kb (.ref cl)))(c7:H' cl=kb (.lst (xs.map iV)))(l1:t.1<xs.length)(l2:t.2<xs.length)
  (q:∀ tt,H' tt=My->Q (.ref tt) (upd H' tt (.tup [.int (rel xs t).1,.int (rel xs t).2]))):eN K σ H' Q:=by
 have a1:=OI (xs:=xs) l1;have a2:=OI (xs:=xs) l2;refine⟨_,h2,_,h0,cl,_,_,_,rfl,rfl,SqL.of c7,a1,_,h2,_,h1,cl,_,_,_,rfl,rfl,SqL.of c7,a2,_,_,rfl,_,h2,_,h0,cl,_,_,_,rfl,rfl,SqL.of c7,a1,_,h2,_,h1,cl,_,_,_,rfl,rfl,SqL.of c7,a2,_,_,rfl,by show 2<=sizeLine;decide,λ tt htt=>?_⟩;have erel:([V.int (if ((xs.getD t.2 0:Nat):Int)<((xs.getD t.1 0:Nat):Int) then ((xs.getD t.2 0:Nat):Int) else ((xs.getD t.1 0:Nat):Int)),V.int (if ((xs.getD t.2 0:Nat):Int)>((xs.getD t.1 0:Nat):Int) then ((xs.getD t.2 0:Nat):Int) else ((xs.getD t.1 0:Nat):Int))]:List V)=[.int (rel xs t).1,.int (rel xs t).2]:=by unfold rel;simp only[List.cons.injEq,V.int.injEq,and_true];constructor<;>(split<;>lia)
 rw[erel];exact q tt htt
def iE (p:Addr)(H:Hp)(xs:List Nat)(tb te:hG)(cl ti:Addr)(vs:List V)(n7:Int):Nat->Nat->List V->Hp->Prop:=λ i mm ys H'=>mm=vs.length-i/\i<=vs.length/\ys.length=i/\TN H' ys (((tb++te).take i).map (rel xs))/\H' ti=kb (.lst vs)/\TN H' vs (tb++te)/\H' cl=kb (.lst (xs.map iV))/\H' p=kb (.lst [.int n7])/\But p H H'
theorem S7 {D:Ends}{p:Addr}{H:Hp}{thick m sh extra:Nat}{xs:List Nat}{tb te:hG}{lf cl ti:Addr}{pl dr tu on ot:g6 V}{H7:Hp}{vs:List V}{n7:Int}(q:QW K p H thick D.rt)(Dr:Drawn m xs tb te)(hte:thick=0->te=[])
  (t7:H7 ti=kb (.lst vs)) (tn7:TN H7 vs (tb++te)) (c7:H7 cl=kb (.lst (xs.map iV))) (p7:H7 p=kb (.lst [.int n7])) (b7:But p H H7) (hl:(tb++te).length<=19):wE K w D (sgW p thick m sh extra (.ref lf) (.ref cl) (.ref ti) pl dr tu on ot) H7:=by
 have hvl:=tn7.len;refine⟨_,rfl,ti,rfl,⟨_,SqL.of t7⟩,iE p H xs tb te cl ti vs n7,
  ⟨vs.length,rfl,aZ _,rfl,.nil,t7,tn7,c7,p7,b7⟩,?_⟩
 clear t7 tn7 c7 p7 b7;rintro i mm ys H' ⟨rfl,hiv,hyl,tny,t7,tn7,c7,p7,b7⟩;rcases Nat.lt_or_ge i vs.length with hi' | hi'
 ·right
  have hxi:vs[i]?=kb vs[i]:=by simp[hi']
  obtain⟨t,b,et,ev,hb⟩:=tn7.get hxi;have htm:=Dr.all (bc et);have hxl:xs.length=m:=Dr.len;refine⟨⟨vs,vs[i],SqL.of t7,hxi⟩,by rw[sizeLine_eq];lia,λ x H'' ⟨e1,yx⟩=>?_⟩;subst e1;have ex:=yx vs (SqL.of t7);rw[hxi]at ex;have ex:=aF ex;subst ex;refine⟨b,_,ev,SqT.of hb,rfl,_,_,rfl,_,_,rfl,rfl,?_⟩;dsimp only [IB];refine Gv ?_;refine S6 (ti:=ti) (m:=m) (t:=t) rfl rfl rfl c7 (by lia) (by lia) λ tt htt=>?_;have sm:iA H'' (upd H'' tt (.tup [.int (rel xs t).1,.int (rel xs t).2])):=iA.upd htt;have tt0:H tt=My:=b7.none htt (aY (iU p7 htt));refine⟨vs.length-(i+1),by lia,rfl,hi',by simp[hyl],?_,sm _ _ t7,tn7.text sm.text,sm _ _ c7,sm _ _ p7,b7.new tt0⟩;rw[fk,et,bp];exact(tny.text sm.text).snoc (t:=rel xs t) ir
 ·left
  have hi2:vs.length=i:=by lia
  subst hi2;rw[List.take_of_length_le (by lia)]at tny;refine⟨⟨vs,SqL.of t7,aq _⟩,λ q0 hq0=>?_⟩;have s0:iA H' (upd H' q0 (.lst ys)):=iA.upd hq0;exact SY (D:=D) q Dr hte rfl rfl ir (tny.text s0.text) (s0 _ _ p7) (b7.new (b7.none hq0 (aY (iU p7 hq0)))) hl
theorem Rb {D:Ends}{p:Addr}{thick m sh extra:Nat}{lf cl ti:Addr}{pl dr tu on ot:g6 V}{H':Hp}{vs:List V}{n7:Int}(m2:0<m)(m8:m<=8)(p7:H' p=kb (.lst [.int n7]))(t7:H' ti=kb (.lst vs))(ntp:ti≠p)(hvl:vs.length<=60)
  (h1:∀ (o1 o2:Nat) (n9:Int) on ot,D.nx (sgW p thick m sh extra (.ref lf) (.ref cl) (.ref ti) pl dr tu on ot) (upd H' p (.lst [.int n9])))
  (h2:∀ (o1 o2:Nat) (n9:Int) on ot tt,o1<m->o2<m->o1≠o2->upd H' p (.lst [.int n9]) tt=My->D.nx (sgW p thick m sh extra (.ref lf) (.ref cl) (.ref ti) pl dr tu on ot) (upd (upd (upd H' p (.lst [.int n9])) tt (.tup [.int o1,.int o2])) ti (.lst (vs++[.ref tt])))) :
  b2 K D (sgW p thick m sh extra (.ref lf) (.ref cl) (.ref ti) pl dr tu on ot) H':=by
 have mp:(0:Int)<m:=by lia
 refine⟨_,rfl,_,rfl,p,n7,_,rfl,p7,mp,by show(m:Int)<_;lia,?_⟩;dsimp only;obtain⟨o1,ho1,o1m⟩:∃ d:Nat,n7 % (m:Int)=d/\d<m:=⟨(n7 % (m:Int)).toNat,by have:=bU n7 (show(m:Int)≠0 by lia);lia,by have:=cS n7 mp;have:=bU n7 (show(m:Int)≠0 by lia);lia⟩;rw[ho1];generalize n7 / (m:Int)=n8;have p8:upd H' p (.lst [.int n8]) p=kb (.lst [.int n8]):=ir;refine⟨_,rfl,_,rfl,p,n8,_,rfl,p8,mp,by show(m:Int)<_;lia,?_⟩;dsimp only;obtain⟨o2,ho2,o2m⟩:∃ d:Nat,n8 % (m:Int)=d/\d<m:=⟨(n8 % (m:Int)).toNat,by have:=bU n8 (show(m:Int)≠0 by lia);lia,by have:=cS n8 mp;have:=bU n8 (show(m:Int)≠0 by lia);lia⟩;rw[ho2];generalize n8 / (m:Int)=n9;have e9:upd (upd H' p (.lst [.int n8])) p (.lst [.int n9])=upd H' p (.lst [.int n9]):=by funext b;unfold upd;split<;>rfl
 rw[e9];have t8:upd H' p (.lst [.int n9]) ti=kb (.lst vs):=by rw[iI ntp];exact t7
 refine⟨_,rfl,_,rfl,rfl,_,rfl,?_⟩;refine Ph (λ hne=>?_) (λ _=>h1 o1 o2 n9 _ _);have hne:o1≠o2:=λ e=>by subst e;simp at hne
 refine⟨_,rfl,.inl ⟨rfl,_,SqL.of t8⟩,_,rfl,_,rfl,by show 2<=sizeLine;decide,λ tt htt=>?_⟩;refine⟨ti,vs,_,rfl,rfl,(iA.upd htt) _ _ t8,by rw[sizeLine_eq];lia,h2 o1 o2 n9 _ _ tt o1m o2m hne htt⟩
def iD (p : Addr)(H : Hp)(thick m sh extra : Nat)(xs : List Nat)(tb : List (Nat × Nat))(lf cl ti : Addr) : Nat -> L2.St -> Hp -> Prop := λ i σ' H' => ∃ (te : List (Nat × Nat)) (vs : List V) (n7 : Int) (pl dr tu on ot : g6 V), σ' = sgW p thick m sh extra (.ref lf) (.ref cl) (.ref ti) pl dr tu on ot /\
      te.length <= i /\ (∀ t ∈ te, t.1 < m /\ t.2 < m /\ t.1 ≠ t.2) /\ H' ti = kb (.lst vs) /\ TN H' vs (tb ++ te) /\ H' cl = kb (.lst (xs.map iV)) /\ H' p = kb (.lst [.int n7]) /\ But p H H'
theorem S9 {D:Ends}{p:Addr}{H:Hp}{thick m sh extra:Nat}{xs:List Nat}{tb:hG}{lf cl ti:Addr}{pl dr:g6 V}{H7:Hp}{vs:List V}{n7:Int}(q:QW K p H thick D.rt)(m2:2<=m)(m8:m<=8)(perm:xs.Perm (V2 m))
  (htl:tb.length=m-1) (htk:∀ k,k<m-1->∃ a,tb[k]?=kb (a,k+1)/\a<=k) (hex2:extra<=12) (hex0:thick=0->extra=0) (ntp:ti≠p) (ntc:ti≠cl) (ncp:cl≠p) (hti0:H ti=My)
  (t7:H7 ti=kb (.lst vs)) (tn7:TN H7 vs tb) (c7:H7 cl=kb (.lst (xs.map iV))) (p7:H7 p=kb (.lst [.int n7])) (b7:But p H H7):wD K w D (sgW p thick m sh extra (.ref lf) (.ref cl) (.ref ti) pl dr My My My) H7:=by
 have hext:((extra:Nat):Int).toNat=extra:=by lia
 refine⟨_,rfl,extra,rfl,by lia,by lia,nV (lo:=0) (n:=((extra:Nat):Int).toNat) (iD p H thick m sh extra xs tb lf cl ti)
  ⟨[],vs,n7,pl,dr,My,My,My,rfl,aq _,(λ t ht=>by cases ht),t7,(by rw[bH];exact tn7),c7,p7,b7⟩ ?_ ?_⟩
 ·clear t7 tn7 c7 p7 b7
  rintro i σ' H' hi ⟨te,vs,n7,pl,dr,tu,on,ot,rfl,tel,teo,t7,tn7,c7,p7,b7⟩;have hvl:=tn7.len;rw[aQ,htl]at hvl;have tx (n9:Int):jS H' (upd H' p (.lst [.int n9])):=jS.upd (by rw[p7];trivial);refine Rb (by lia) m8 p7 t7 ntp (by lia) (λ o1 o2 n9 on ot=>⟨te,vs,n9,_,_,_,_,_,rfl,by lia,teo,?_,tn7.text (tx n9),?_,ir,b7.A1⟩) λ o1 o2 n9 on ot tt o1m o2m hne htt=>?_
  ·rw[iI ntp];exact t7
  ·rw[iI ncp];exact c7
  ·have t8:upd H' p (.lst [.int n9]) ti=kb (.lst vs):=by rw[iI ntp];exact t7
   have c8:upd H' p (.lst [.int n9]) cl=kb (.lst (xs.map iV)):=by rw[iI ncp];exact c7
   have p8:upd H' p (.lst [.int n9]) p=kb (.lst [.int n9]):=ir;have b8:But p H (upd H' p (.lst [.int n9])):=b7.A1;have tn8:=tn7.text (tx n9);generalize upd H' p (.lst [.int n9])=H8 at tn8 t8 c8 p8 b8 htt;have sm:iA H8 (upd H8 tt (.tup [.int o1,.int o2])):=iA.upd htt;have tt0:H tt=My:=b8.none htt (aY (iU p8 htt));have b9:=b8.new tt0 (o:=.tup [.int o1,.int o2]);have tu9:upd H8 tt (.tup [.int o1,.int o2]) tt=kb (.tup [.int o1,.int o2]):=ir;have t9:=sm _ _ t8;have c9:=sm _ _ c8;have p9:=sm _ _ p8;have tn9:=tn8.text sm.text;generalize upd H8 tt (.tup [.int o1,.int o2])=H9 at b9 tu9 t9 c9 p9 tn9;have tx:jS H9 (upd H9 ti (.lst (vs++[.ref tt]))):=jS.upd (by rw[t9];trivial);refine⟨te++[(o1,o2)],vs++[.ref tt],n9,_,_,_,_,_,rfl,by rw[aQ,cy];lia,λ t ht=>?_,ir,?_,by rw[iI (aY ntc)];exact c9,by rw[iI (aY ntp)];exact p9,b9.new hti0⟩
   ·rcases bh.mp ht with z | z
    ·exact teo t z
    ·rw[aN.mp z];exact⟨o1m,o2m,hne⟩
   ·rw[<-dP];exact(tn9.snoc (t:=(o1,o2)) tu9).text tx
 ·clear t7 tn7 c7 p7 b7;rintro σ' H' ⟨te,vs,n7,pl,dr,tu,on,ot,rfl,tel,teo,t7,tn7,c7,p7,b7⟩;rw[hext]at tel;exact S7 (D:=D) q ⟨m2,m8,perm,htl,htk,teo,by lia⟩ (λ h0=>d3.mp (by have:=hex0 h0;lia)) t7 tn7 c7 p7 b7 (by rw[aQ];lia)
theorem Rc {D:Ends}{p:Addr}{thick m sh extra i:Nat}{lf cl ti:Addr}{dr tu on ot:g6 V}{H':Hp}{vs:List V}{n7:Int}(hi:i<8)(sh4:sh<4)(p7:H' p=kb (.lst [.int n7]))(t7:H' ti=kb (.lst vs))(ntp:ti≠p)(hvl:vs.length<=60)
  (h:∀ (a dr':Nat) (n8:Int) q4 tu',a<=i->upd H' p (.lst [.int n8]) q4=My->upd (upd H' p (.lst [.int n8])) q4 (.lst [V.int (1+(i:Int)-1),iV dr',iV dr',V.int 0]) tu'=My ->
   D.nx (sgW p thick m sh extra (.ref lf) (.ref cl) (.ref ti) (kb (.int (1+(i:Int)))) (kb (iV dr')) tu on ot) (upd (upd (upd (upd H' p (.lst [.int n8])) q4 (.lst [V.int (1+(i:Int)-1),iV dr',iV dr',V.int 0])) tu' (.tup [iV a,.int (1+(i:Int))])) ti (.lst (vs++[.ref tu'])))) :
  b1 K D (sgW p thick m sh extra (.ref lf) (.ref cl) (.ref ti) (kb (.int (1+(i:Int)))) dr tu on ot) H':=by
 refine⟨_,rfl,_,rfl,p,n7,_,rfl,p7,by lia,by lia,?_⟩;dsimp only;obtain⟨dr',hdr,dri⟩:∃ d:Nat,n7 % (1+(i:Int))=d/\d<=i:=⟨(n7 % (1+(i:Int))).toNat,by have:=bU n7 (show(1+(i:Int))≠0 by lia);lia,by have:=cS n7 (show(0:Int)<1+(i:Int) by lia);have:=bU n7 (show(1+(i:Int))≠0 by lia);lia⟩;rw[hdr];generalize n7 / (1+(i:Int))=n8;have t8:upd H' p (.lst [.int n8]) ti=kb (.lst vs):=by rw[iI ntp];exact t7
 obtain⟨pa',hpa,pai⟩:∃ a:Nat,([V.int (1+(i:Int)-1),iV dr',iV dr',V.int 0]:List V)[sh]?=kb (iV a)/\a<=i:=by
  rcases (by lia:sh=0\/sh=1\/sh=2\/sh=3) with rfl | rfl | rfl | rfl
  ·exact⟨i,by simp[iV];lia,by lia⟩
  ·exact⟨dr',rfl,dri⟩
  ·exact⟨dr',rfl,dri⟩
  ·exact⟨0,rfl,by lia⟩
 refine⟨_,rfl,.inl ⟨rfl,_,SqL.of t8⟩,_,rfl,_,_,rfl,rfl,_,rfl,_,rfl,by show 4<=sizeLine;decide,λ q4 hq4=>?_⟩;refine⟨_,rfl,q4,_,_,iV pa',rfl,rfl,SqL.of ir,oK hpa,_,rfl,by show 2<=sizeLine;decide,λ tu htu=>?_⟩;exact⟨ti,vs,_,rfl,rfl,((iA.upd hq4).trans (iA.upd htu)) _ _ t8,by rw[sizeLine_eq];lia,h pa' dr' n8 q4 tu pai hq4 htu⟩
def iC (p : Addr)(H : Hp)(thick m sh extra : Nat)(xs : List Nat)(lf cl ti : Addr) : Nat -> L2.St -> Hp -> Prop := λ i σ' H' => ∃ (tb : List (Nat × Nat)) (vs : List V) (n7 : Int) (pl dr : g6 V), σ' = sgW p thick m sh extra (.ref lf) (.ref cl) (.ref ti) pl dr My My My /\
      tb.length = i /\ (∀ k, k < i -> ∃ a, tb[k]? = kb (a, k + 1) /\ a <= k) /\ H' ti = kb (.lst vs) /\ TN H' vs tb /\ H' cl = kb (.lst (xs.map iV)) /\ H' p = kb (.lst [.int n7]) /\ But p H H'
theorem S_ {D:Ends}{p:Addr}{H:Hp}{thick m sh extra:Nat}{xs:List Nat}{lf cl:Addr}{H6:Hp}{n5:Int}(q:QW K p H thick D.rt)(m2:2<=m)(m8:m<=8)(sh4:sh<4)(perm:xs.Perm (V2 m))(hex2:extra<=12)(hex0:thick=0->extra=0)(ncp:cl≠p)
  (c6:H6 cl=kb (.lst (xs.map iV))) (p6:H6 p=kb (.lst [.int n5])) (b6:But p H H6):wC K w D [kb (.ref p),kb (.int 7),kb (iV thick),kb (iV m),kb (iV sh),kb (iV extra),kb (.ref lf),kb (.ref cl),My,My,My,My,My,My] H6:=by
 refine⟨aZ _,λ ti hti=>?_⟩;have ntp:ti≠p:=λ z=>by subst z;rw[p6]at hti;cases hti
 have ntc:ti≠cl:=λ z=>by subst z;rw[c6]at hti;cases hti
 have hti0:H ti=My:=b6.none hti ntp;have hm1:((m:Int)-1).toNat=m-1:=by lia
 refine⟨_,rfl,1,m,rfl,⟨by lia,by lia,by lia,by lia⟩,nV (lo:=1) (n:=((m:Int)-1).toNat) (iC p H thick m sh extra xs lf cl ti)
  ⟨[],[],n5,My,My,rfl,rfl,λ k hk=>by lia,ir,.nil,by rw[iI (aY ntc)];exact c6,by rw[iI (aY ntp)];exact p6,b6.new hti0⟩ ?_ ?_⟩
 ·clear c6 p6 b6
  rintro i σ' H' hi ⟨tb,vs,n7,pl,dr,rfl,htl,htk,t7,tn7,c7,p7,b7⟩;have hi1:i<m-1:=by lia
  refine Rc (by lia) sh4 p7 t7 ntp (by rw[tn7.len];lia) λ pa' dr' n8 q4 tu pai hq4 htu=>?_;have tn8:=tn7.text (jS.upd (o:=.lst [.int n8]) (by rw[p7];trivial));have t8:upd H' p (.lst [.int n8]) ti=kb (.lst vs):=by rw[iI ntp];exact t7
  have c8:upd H' p (.lst [.int n8]) cl=kb (.lst (xs.map iV)):=by rw[iI ncp];exact c7
  have p8:upd H' p (.lst [.int n8]) p=kb (.lst [.int n8]):=ir;have b8:But p H (upd H' p (.lst [.int n8])):=b7.A1;generalize upd H' p (.lst [.int n8])=H8 at tn8 t8 c8 p8 b8 hq4 htu;clear tn7 t7 c7 p7 b7;generalize [V.int (1+(i:Int)-1),iV dr',iV dr',V.int 0]=l4 at htu;have ntq:tu≠q4:=λ y=>by rw[y,ir]at htu;cases htu
  have htu8:H8 tu=My:=by rw[iI ntq]at htu;exact htu
  have q40:H q4=My:=b8.none hq4 (aY (iU p8 hq4));have tu0:H tu=My:=b8.none htu8 (aY (iU p8 htu8));have sm:iA H8 (upd (upd H8 q4 (.lst l4)) tu (.tup [iV pa',.int (1+(i:Int))])):=(iA.upd hq4).trans (iA.upd htu);have b9:=(b8.new q40 (o:=.lst l4)).new tu0 (o:=.tup [iV pa',.int (1+(i:Int))]);have tu9:upd (upd H8 q4 (.lst l4)) tu (.tup [iV pa',.int (1+(i:Int))]) tu=kb (.tup [iV pa',.int (1+(i:Int))]):=ir;have t9:=sm _ _ t8;have c9:=sm _ _ c8;have p9:=sm _ _ p8;have tn9:=tn8.text sm.text;generalize upd (upd H8 q4 (.lst l4)) tu (.tup [iV pa',.int (1+(i:Int))])=H9 at b9 tu9 t9 c9 p9 tn9;have tx:jS H9 (upd H9 ti (.lst (vs++[.ref tu]))):=jS.upd (by rw[t9];trivial);refine⟨tb++[(pa',i+1)],vs++[.ref tu],n8,_,_,rfl,by rw[aQ,cy,htl],λ k hk=>?_,ir,?_,by rw[iI (aY ntc)];exact c9,by rw[iI (aY ntp)];exact p9,b9.new hti0⟩
  ·by_cases hki:k<i
   ·obtain⟨a,ea,ha⟩:=htk k hki;exact⟨a,by rw[br (by lia)];exact ea,ha⟩
   ·have:k=i:=by lia
    subst this;exact⟨pa',by rw[bE (by lia)];simp[htl],pai⟩
  ·refine(tn9.snoc (t:=(pa',i+1)) ?_).text tx;rw[tu9];simp[iV];lia
 ·rintro σ' H' ⟨tb,vs,n7,pl,dr,rfl,htl,htk,t7,tn7,c7,p7,b7⟩;rw[hm1]at htl htk;exact S9 (D:=D) q m2 m8 perm htl htk hex2 hex0 ntp ntc ncp hti0 t7 tn7 c7 p7 b7
theorem Ta {Q:VK}{σ:L2.St}{p lf:Addr}{L:List Nat}{n5:Int}{H':Hp}(h1:σ[1]?=kb (kb (.ref lf)))(h2:σ[2]?=kb (kb (.ref p)))(nlp:lf≠p)(hL:0<L.length)(hL8:L.length<=8)(l5:H' lf=kb (.lst (L.map iV)))(p5:H' p=kb (.lst [.int n5]))
  (q:∀ (j:Nat) (n6:Int) (jl:j<L.length),Q (iV L[j]) (upd (upd H' p (.lst [.int n6])) lf (.lst ((L.map iV).eraseIdx j)))):eC K σ H' Q:=by
 obtain⟨j,hj,jl⟩:∃ j:Nat,n5 % ((L.map iV).length:Int)=j/\j<L.length:=by rw[ak];exact⟨(n5 % (L.length:Int)).toNat,by have:=bU n5 (show(L.length:Int)≠0 by lia);lia,by have:=cS n5 (show(0:Int)<L.length by lia);have:=bU n5 (show(L.length:Int)≠0 by lia);lia⟩
 refine⟨_,h1,.inl ⟨rfl,_,SqL.of l5⟩,_,h2,_,h1,lf,_,rfl,.inl (SqL.of l5),p,n5,_,rfl,p5,by rw[ak];lia,by rw[ak];lia,?_⟩;rw[hj];have l6:upd H' p (.lst [.int (n5 / ((L.map iV).length:Int))]) lf=kb (.lst (L.map iV)):=by rw[iI nlp];exact l5
 refine⟨lf,_,_,j,iV L[j],rfl,rfl,l6,by lia,by lia,?_,by simp[jl],q j _ jl⟩;rw[ak];have:=seqIndex_of (k:=(j:Int)) (n:=L.length) (by lia) (by lia);simpa using this
def iB (p:Addr)(H:Hp)(m:Nat)(lf:Addr):Nat->Nat->List V->Hp->Prop:=λ i mm ys H5=>mm=m-i/\i<=m/\∃ (xs L:List Nat) (n5:Int),ys=xs.map iV/\xs.length=i/\L.length=m-i/\(xs++L).Perm (V2 m)/\H5 lf=kb (.lst (L.map iV))/\H5 p=kb (.lst [.int n5])/\But p H H5
theorem Tc {D:Ends}{p:Addr}{H:Hp}{thick m sh extra:Nat}{lf:Addr}{H4:Hp}{n3:Int}(q:QW K p H thick D.rt)(m2:2<=m)(m8:m<=8)(sh4:sh<4)(hex2:extra<=12)(hex0:thick=0->extra=0)(nlp:lf≠p)(hlf0:H lf=My)
  (l4:H4 lf=kb (.lst ((V2 m).map iV))) (p4:H4 p=kb (.lst [.int n3])) (b4:But p H H4):wB K w D [kb (.ref p),kb (.int 7),kb (iV thick),kb (iV m),kb (iV sh),kb (iV extra),kb (.ref lf),My,My,My,My,My,My,My] H4:=by
 refine⟨_,rfl,m,rfl,by lia,by lia,iB p H m lf,⟨m,rfl,aZ _,[],V2 m,n3,rfl,rfl,by simp,by simp,l4,p4,b4⟩,?_⟩;clear l4 p4 b4;rintro i mm ys H5 ⟨rfl,him,xs,L,n5,rfl,hxs,hL,perm,l5,p5,b5⟩;rcases Nat.lt_or_ge i m with him' | him'
 ·right
  refine⟨by show i<(m:Int).toNat;lia,by rw[ak,sizeLine_eq];lia,λ x H' ⟨e1,e2⟩=>?_⟩;subst e1;dsimp only [je,IB];refine Gv ?_;refine Ta (L:=L) rfl rfl nlp (by lia) (by lia) l5 p5 λ j n6 jl=>?_;refine⟨m-(i+1),by lia,rfl,by lia,xs++[L[j]],L.eraseIdx j,n6,by simp[iV],by simp[hxs],?_,?_,?_,by rw[iI (aY nlp)];exact ir,(b5.A1).new hlf0⟩
  ·rw[List.length_eraseIdx,ae jl];lia
  ·refine List.Perm.trans ?_ perm;rw[dP];exact List.Perm.append_left xs (yf L jl)
  ·rw[ir,zL]
 ·left
  have hi:m=i:=by lia
  subst hi;have hL0:L=[]:=d3.mp (by lia);subst hL0;rw[bH]at perm;refine⟨by show(m:Int).toNat<=m;lia,λ cl hcl=>?_⟩;have ncp:cl≠p:=λ z=>by subst z;rw[p5]at hcl;cases hcl
  exact S_ (D:=D) q m2 m8 sh4 perm hex2 hex0 ncp ir (by rw[iI (aY ncp)];exact p5) (b5.new (b5.none hcl ncp))
theorem Td {D:Ends}{p:Addr}{H:Hp}{thick:Nat}{n:Int}(q:QW K p H thick D.rt)(hth:thick<=1)(hp:H p=kb (.lst [.int n])):wA K w D [kb (.ref p),kb (.int 7),kb (.int thick),My,My,My,My,My,My,My,My,My,My,My] H:=by
 refine⟨_,rfl,_,rfl,_,_,rfl,rfl,p,n,_,rfl,hp,by decide,by decide,_,_,rfl,rfl,?_⟩;dsimp only;obtain⟨m,hm,m2,m8⟩:∃ m:Nat,(2:Int)+n % (7-1)=m/\2<=m/\m<=8:=⟨(2+n % (7-1)).toNat,by lia,by lia,by lia⟩;rw[hm];generalize n / (7-1)=n1;have b1:But p H (upd H p (.lst [.int n1])):=(But.refl p H).A1;generalize hH1:upd H p (.lst [.int n1])=H1 at b1;have p1:H1 p=kb (.lst [.int n1]):=by rw[<-hH1];exact ir
 clear hH1;refine⟨_,rfl,p,n1,_,rfl,p1,by decide,by decide,?_⟩;dsimp only;obtain⟨sh,hsh,sh4⟩:∃ sh:Nat,n1 % 4=sh/\sh<4:=⟨(n1 % 4).toNat,by lia,by lia⟩;rw[hsh];generalize n1 / 4=n2;have b2:But p H (upd H1 p (.lst [.int n2])):=b1.A1;generalize hH2:upd H1 p (.lst [.int n2])=H2 at b2;have p2:H2 p=kb (.lst [.int n2]):=by rw[<-hH2];exact ir
 clear hH2;refine⟨by show 4<=sizeLine;decide,λ a4 h4=>?_⟩;have np4:a4≠p:=λ z=>by subst z;rw[p2]at h4;cases h4
 have p3:upd H2 a4 (.lst [.int 0,.int 1,.int 2,.int 12]) p=kb (.lst [.int n2]):=by rw[iI (aY np4)];exact p2
 refine⟨_,rfl,p,n2,_,rfl,p3,by decide,by decide,?_⟩;dsimp only;obtain⟨ei,hei,ei4⟩:∃ ei:Nat,n2 % 4=ei/\ei<4:=⟨(n2 % 4).toNat,by lia,by lia⟩;rw[hei];generalize n2 / 4=n3;obtain⟨ex,hex,ex12⟩:∃ ex:Nat,([V.int 0,V.int 1,V.int 2,V.int 12]:List V)[ei]?=kb (.int ex)/\ex<=12:=by
  rcases (by lia:ei=0\/ei=1\/ei=2\/ei=3) with rfl | rfl | rfl | rfl
  ·exact⟨0,rfl,by lia⟩
  ·exact⟨1,rfl,by lia⟩
  ·exact⟨2,rfl,by lia⟩
  ·exact⟨12,rfl,by lia⟩
 have b3:But p H (upd (upd H2 a4 (.lst [.int 0,.int 1,.int 2,.int 12])) p (.lst [.int n3])):=(b2.new (b2.none h4 np4)).A1;refine⟨a4,_,_,.int ex,rfl,rfl,SqL.of (by rw[iI np4];exact ir),oK hex,?_⟩;generalize hH3:upd (upd H2 a4 (.lst [.int 0,.int 1,.int 2,.int 12])) p (.lst [.int n3])=H3 at b3;have p3:H3 p=kb (.lst [.int n3]):=by rw[<-hH3];exact ir
 clear hH3;refine⟨_,rfl,_,_,rfl,rfl,.inl ⟨by lia,by lia⟩,?_⟩;dsimp only;rw[show(ex:Int)*(thick:Int)=((ex*thick:Nat):Int) by simp];have hex2:ex*thick<=12:=by have:=f9 ex12 hth;lia
 have hex0:thick=0->ex*thick=0:=λ h=>by rw[h];simp
 generalize ex*thick=extra at hex2 hex0;refine⟨_,rfl,_,rfl,λ r hr0=>?_⟩;refine⟨r,m,rfl,ir,by lia,λ lf hlf=>?_⟩;have nrp:r≠p:=λ z=>by subst z;rw[p3]at hr0;cases hr0
 have nlr:lf≠r:=λ z=>by subst z;rw[ir]at hlf;cases hlf
 have hlf3:H3 lf=My:=by rw[iI nlr]at hlf;exact hlf
 have nlp:lf≠p:=λ z=>by subst z;rw[p3]at hlf3;cases hlf3
 have hlf0:H lf=My:=b3.none hlf3 nlp;exact Tc (D:=D) q m2 m8 sh4 hex2 hex0 nlp hlf0 ir (by rw[iI (aY nlp),iI (aY nrp)];exact p3) ((b3.new (b3.none hr0 nrp)).new hlf0)
theorem K2 (T:Txt K mg):OkT P w base T.ng 2 (OJ K):=by
 refine T.ng.F.ok jv (λ vs H Q E h=>?_) (λ cdv A outer s H vs Q E hr h=>?_)
 ·obtain⟨p,n,thick,rfl,_⟩:=h;rfl
 ·obtain⟨p,n,thick,rfl,hth,hp,q⟩:=h
  have hu:(A.deeper (envOfC "_law_web" (il rS) s.heap.objs.size T.ng.f cdv)).units+64<cLine:=by have:=hr.un;lia
  have hrt:kN 1 _:=hr.mono (by decide);refine⟨wA K w,iH (jn (i:=3) jv.nd rfl (Or.inl rfl) (jD nN iS (pC T.jw (mz T) hr (ic (pv 0) (ic (jD v_ (pv 1) iS) iM)))))
   (iH (jn (i:=4) jv.nd rfl (Or.inl rfl) (pC T.jw (mz T) hr (ic (pv 0) (ic iS iM))))
   (iH (jn (i:=5) jv.nd rfl (Or.inl rfl) (jD tU (nY lV (lx (ic iS (ic iS (ic iS (ic iS iM))))) (pC T.jw (mz T) hr (ic (pv 0) (ic iS iM))) (λ _ _=>rfl)) (pv 2)))
   (iH (jn (i:=6) jv.nd rfl (Or.inr rfl) (nW (DU rfl) rfl T.KP boot_list (ic (nW B8 rfl T.ko boot_range (ic (pv 3) iM)) iM)))
   (iH (jn (i:=7) jv.nd rfl (Or.inr rfl) (NP (te:=tBM K "list" Dn (iX 1) (iN (mf pz [] E0 (iN (iX 2) (iN (tCB (Q6 K) (iN (iX 1) jI)) jI))) jI)) rfl (csc ["_law_turn"] ["_law_left","_law_pot_here"] [6,0]) (mB rfl T.ko (ic (pv 3) iM)) (λ _ _ _ _=>pgo 0) jQ (λ _ _ _ _=>DF)
     (λ _ _ _ _=>wo cY PySem.F.slot_list_pop PySem.F.type_list_pop Ie (pv 1) (ic (pC T.jw (mz T) hr (ic (pv 2) (ic (kO mr (by rfl) T.rh cM (ic (pv 1) iM)) iM))) iM))))
   (iH (jn (i:=8) jv.nd rfl (Or.inl rfl) (lx iM))
   (iH (oH bD rfl (yL rfl T.ko (ic iS (ic (pv 3) iM))) (pgo 9)
    (iH (jn (i:=10) jv.nd rfl (Or.inl rfl) (pC T.jw (mz T) hr (ic (pv 0) (ic (pv 9) iM))))
    (jc (r_ (wo cY eU eV tX (pv 8) (ic (tW (ic (nY lV (lx (ic (jD v_ (pv 9) iS) (ic (pv 10) (ic (pv 10) (ic iS iM))))) (pv 4) (λ _ _=>rfl)) (ic (pv 9) iM))) iM))))))
   (iH (oH bD rfl (mB rfl T.ko (ic (pv 5) iM)) (pgo 11)
    (iH (jn (i:=12) jv.nd rfl (Or.inl rfl) (pC T.jw (mz T) hr (ic (pv 0) (ic (pv 3) iM))))
    (iH (jn (i:=13) jv.nd rfl (Or.inl rfl) (pC T.jw (mz T) hr (ic (pv 0) (ic (pv 3) iM))))
    (jc (uW (vL HV (pv 12) (pv 13) (wa _)) (jc (r_ (wo cY eU eV tX (pv 8) (ic (tW (ic (pv 12) (ic (pv 13) iM))) iM)))) ml)))))
   (iH (NQ (i:=8) (g:=Bf K 2 (nu (je 0) (nu (je 1) Bd))) (te:=Gm (iN (tCB Q7 (iN (tOp (wm K) (iX 2) (iX 0)) (iN (tOp (wm K) (iX 2) (iX 1)) jI))) (iN (tCB Q8 (iN (tOp (wm K) (iX 2) (iX 0)) (iN (tOp (wm K) (iX 2) (iX 1)) jI))) jI))) jv.nd rfl (Or.inl rfl) rfl (csc ["_law_one","_law_other"] ["_law_called"] [7]) (zO (pv 8)) (λ _ _ _ _=>lM rfl (i9 (pgo 0) (i9 (pgo 1) kB))) (n4 (jy (by decide) (jy (by decide) mC))) (λ _ _ _ _=>DF)
     (λ _ _ _ _=>tW (ic (kO (yO (by rfl)) (by rfl) T.OE boot_min (ic (nY lV (pv 2) (pv 0) (λ _ _=>rfl)) (ic (nY lV (pv 2) (pv 1) (λ _ _=>rfl)) iM))) (ic (kO (yN (by rfl)) (by rfl) T.OF boot_max (ic (nY lV (pv 2) (pv 0) (λ _ _=>rfl)) (ic (nY lV (pv 2) (pv 1) (λ _ _=>rfl)) iM))) iM))))
   (jc (lu (tW (ic (pv 3) (ic (nW qY rfl T.my boot_tuple (ic (kO (wU rfl) rfl T.ye boot_sorted (ic (nW (IG rfl hu) rfl T.SW boot_set (ic (pv 8) iM)) iM)) iM)) iM))))))))))))),?_⟩
  exact Td q hth hp
end
section
variable {P:Program}{w:World}{K:g9}{mg:gZ}{base:Heap}
theorem tO (T:Txt K mg):OkT P w base T.lS 1 (spD K 2 kF):=by
 refine T.lS.F.ok lF (λ vs H Q E h=>?_) (λ cdv A outer s H vs Q E hr h=>?_)
 ·obtain⟨ds,d,hl,is,_⟩:=h;rw[is.length,hl];rfl
 ·obtain⟨ds,d,hl,is,e,q⟩:=h
  obtain⟨⟨a,b⟩,e1,e2⟩:=iP e;obtain rfl:=vP e1;clear e e1
  ·cases e2
   refine⟨_,iH (lO (i:=0) (j:=1) rfl lF.nd (hV (jx Fw T.F_ boot_abs (hV (dv 0) ie)) (hV (jx Fw T.F_ boot_abs (hV (dv 1) ie)) ie)))
    (iH (v9 bD (ku (dv 1)) (iK (lO (i:=0) (j:=1) rfl lF.nd (hV (dv 1) (hV (lq NU (dv 0) (dv 1)) ie))))) (iK (i8 (dv 0)))),?_⟩
   refine⟨_,.nx [kb (h_ a.natAbs),kb (h_ b.natAbs)],is.start,?_,λ H1 s1 σ1 S1=>?_⟩
   ·simp[FA,h_]
   ·refine Bh (λ σ H2=>iA H H2/\∃ x y:Nat,Sat K H2 σ [kb (h_ x),kb (h_ y)]/\Nat.gcd x y=Int.gcd a b) (intAt 1) ⟨s1,_,_,S1,rfl⟩ ?_ (λ σ H=>B7 σ H)
    rintro σ H2 ⟨s2,x,y,S,hg⟩;refine⟨_,decide (y≠0),S,?_,λ H3 s3=>?_⟩
    ·simp[IM,h_];rw[bj];simp
    ·show(if decide (y≠0)=V0 then _ else _)
     by_cases hy:y=0
     ·subst hy;rw[ag (by simp)];refine⟨_,.rt (h_ x),S.ext s3,rfl,λ H4 s4 v iv=>q v H4 ((s2.trans s3).trans s4) ?_⟩;rw[Nat.gcd_zero_right]at hg;rw[<-hg];exact iv
     ·rw[ae (by simpa using hy)]
      refine⟨_,.nx [kb (h_ y),kb (h_ (x % y))],S.ext s3,?_,λ H4 s4 σ4 S4=>⟨⟨(s2.trans s3).trans s4,y,x % y,S4,?_⟩,?_⟩⟩
      ·have:0<y:=by lia
       simp[dIC,h_,this]
      ·rw[<-hg,gL x y,Nat.gcd_rec y x,gL]
      ·rw[s_ S4 (i:=1) rfl,s_ S (i:=1) rfl];exact fw _ (by lia)
theorem ED (T:Txt K mg):OkT P w base T.uR 1 (spD K 2 zm):=by
 refine T.uR.F.ok o9 (λ vs H Q E h=>?_) (λ cdv A outer s H vs Q E hr h=>?_)
 ·obtain⟨ds,d,hl,is,_⟩:=h;rw[is.length,hl];rfl
 ·obtain⟨ds,d,hl,is,e,q⟩:=h
  obtain⟨a,b,rfl,hc,rfl⟩:=BQ e
  ··clear e
    obtain⟨h1,h2⟩:=oQ (a:=a) hc.1;obtain⟨h3,h4⟩:=Ai (a:=a) hc.1;have h5:0<(Int.gcd a b:Int)/\bd (Int.gcd a b:Int):=⟨h3,N4 hc.2 (by lia) h4⟩;refine⟨_,iH (lO (i:=2) (j:=3) rfl o9.nd (hV (jx Fw T.F_ boot_abs (hV (dv 0) ie)) (hV (jx Fw T.F_ boot_abs (hV (dv 1) ie)) ie)))
     (iH (v9 bD (jK (BJ (iW hr)) (dv 3) iZ) (iK (lO (i:=2) (j:=3) rfl o9.nd (hV (dv 3) (hV (lq NU (dv 2) (dv 3)) ie)))))
     (iJ (lC (jK L4 (dv 1) iZ) (iK (j6 (i:=2) o9.nd (lq Fm iZ (dv 2)))) jB) (iK (i8 (pW (hV (lq BG (dv 0) (dv 2)) (hV (lq BG (dv 1) (dv 2)) ie))))))),?_⟩
    refine⟨_,.nx [kb (.int a),kb (.int b),kb (h_ a.natAbs),kb (h_ b.natAbs)],is.start,?_,λ H1 s1 σ1 S1=>?_⟩
    ·simp[FA,h_]
    ·refine Bh (λ σ H2=>iA H H2/\∃ x y:Nat,Sat K H2 σ [kb (.int a),kb (.int b),kb (h_ x),kb (h_ y)]/\Nat.gcd x y=Int.gcd a b) (intAt 3) ⟨s1,_,_,S1,rfl⟩ ?_ (λ σ H=>B7 σ H)
     rintro σ H2 ⟨s2,x,y,S,hg⟩;refine⟨_,decide (y≠0),S,?_,λ H3 s3=>?_⟩
     ·simp[h_];rw[bj];simp
     ·show(if decide (y≠0)=V0 then _ else _)
      by_cases hy:y=0
      ·subst hy
       rw[ag (by simp)];rw[Nat.gcd_zero_right]at hg;refine⟨_,.rt (iF (V4 a b)),S.ext s3,?_,λ H4 s4 v iv=>q v H4 ((s2.trans s3).trans s4) iv⟩;have hnb:¬ b<0:=by lia
       unfold iF;rw[h1,h2];rw[hg];simp[h_,hnb,dIC,h5,show b≠0 by lia]
      ·rw[ae (by simpa using hy)]
       refine⟨_,.nx [kb (.int a),kb (.int b),kb (h_ y),kb (h_ (x % y))],S.ext s3,?_,λ H4 s4 σ4 S4=>⟨⟨(s2.trans s3).trans s4,y,x % y,S4,?_⟩,?_⟩⟩
       ·have:0<y:=by lia
        simp[dIC,h_,this]
       ·rw[<-hg,gL x y,Nat.gcd_rec y x,gL]
       ·rw[s_ S4 (i:=3) rfl,s_ S (i:=3) rfl];exact fw _ (by lia)
end
section
variable {P:Program}{w:World}{K:g9}{mg:gZ}{base:Heap}
theorem vv (T:Txt K mg):OkT P w base T.pf 2 (spD K 2 jX):=T.pf.okD (g:=rF) vo (λ _ _ _ _ _ _ hr=>(iJ (j6 (i:=2) vo.nd (dC T.lS (tO T) hr (hV (dv 0) (hV (dv 1) ie)))) (iK (i8 (pW (hV (lq BG (dv 0) (dv 2)) (hV (lq BG (dv 1) (dv 2)) ie))))))) BS
theorem K4 (T:Txt K mg):OkT P w base T.AY 3 (spD K 2 nG):=T.AY.okD (g:=AK) KN (λ _ _ _ _ _ _ hr=>(iK (i8 (dC T.pf (vv T) hr (hV (lq Fm (lq pF (jJ (dv 0) iZ) (jJ (dv 1) iZ)) (lq pF (jJ (dv 1) iZ) (jJ (dv 0) iZ))) (hV (lq pF (jJ (dv 0) iZ) (jJ (dv 1) iZ)) ie)))))) Cw
theorem EE (T:Txt K mg):OkT P w base T.uJ 1 (spD K 2 qO):=T.uJ.okD (g:=uF) Er (λ _ _ _ _ _ _ hr=>(iK (i8 (u7 L4 (lq pF (jJ (dv 0) iZ) (jJ (dv 1) iZ)) (lq pF (jJ (dv 1) iZ) (jJ (dv 0) iZ)))))) Ei
theorem EF (T:Txt K mg):OkT P w base T.uK 1 (spD K 4 mE):=T.uK.okD (g:=uz) Es (λ _ _ _ _ _ _ hr=>(iK (i8 (vC rfl (csc ["one","other"] ["former","lead","at","row"] [3,1,2,0]) (NY V1 V1 T.OG (hV (dv 0) (hV (dv 1) ie))) (λ _ _ _ _=>(lM rfl (i9 (pgo 0) (i9 (pgo 1) kB)))) (n4 (jy (by decide) (jy (by decide) mC))) lz (λ _ _ _ _=>mL) (λ _ _ _ _=>(lq BG (lq Fm (lq pF (jJ (dv 3) (dv 4)) (dv 0)) (lq pF (jJ (dv 5) (dv 4)) (dv 1))) (dv 2))))))) D_
theorem Hu (T:Txt K mg):OkT P w base T.yc 3 (spD K 1 oA):=T.yc.okD (g:=xH) mJ (λ _ _ _ _ _ _ hr=>(iJ (j6 (i:=1) mJ.nd (og Jq T.KP boot_list (hV (dv 0) ie))) (iJ (j6 (i:=2) mJ.nd iZ) (iJ (Ad bD rfl (qH T.ko (hV (jx zj T.rh cM (hV (dv 0) ie)) ie)) (pgo 3) jZ (iJ (j6 (i:=4) mJ.nd (jJ (dv 1) (dv 3))) (iJ (IZ (i:=1) mJ.nd rfl (csc ["k","row"] ["at","lead","former"] [3,4,2]) (ME V1 T.CV (hV (dv 1) ie)) (λ _ _ _ _=>(lM rfl (i9 (pgo 0) (i9 (pgo 1) kB)))) (n4 (jy (by decide) (jy (by decide) mC))) lz (λ _ _ _ _=>mL) (λ _ _ _ _=>(Pw (jK (BH (iW hr)) (dv 0) (dv 2)) (dv 1) (dC T.uK (EF T) hr (hV (dv 1) (hV (dv 3) (hV (dv 2) (hV (dv 4) ie)))))))) (iK (j6 (i:=2) mJ.nd (jJ (dv 4) (dv 3))))))) (iK (i8 (og sN T.my boot_tuple (hV (vC rfl (csc ["row"] ["former"] [2]) (mQ (dv 1)) (λ _ _ _ _=>(pgo 0)) jQ jZ (λ _ _ _ _=>mL) (λ _ _ _ _=>(dC T.pf (vv T) hr (hV (jJ (dv 0) (N6 iZ)) (hV (dv 1) ie))))) ie)))))))) G4
theorem A2 (T:Txt K mg):OkT P w base T.qo 1 (spD K 1 lE):=T.qo.okD (g:=oZ) AU (λ _ _ _ _ _ _ hr=>(iK (i8 (jx (NX rfl) T.OD boot_all (hV (vC rfl (csc ["one","following"] [] []) (NY V0 V0 T.OG (hV (dv 0) (hV (MY (dv 0)) ie))) (λ _ _ _ _=>(lM rfl (i9 (pgo 0) (i9 (pgo 1) kB)))) (n4 (jy (by decide) (jy (by decide) mC))) lz (λ _ _ _ _=>mL) (λ _ _ _ _=>(u7 (RU (Mm hr)) (dv 0) (dv 1)))) ie))))) yH
theorem r8 (T:Txt K mg):OkT P w base T.oG 4 (spD K 1 mH):=T.oG.okD (g:=uD) Hm (λ _ _ _ _ _ _ hr=>(iJ (lC (Ab (u9 (kU (ku (jx BL T.iO boot_isinstance (hV (dv 0) (hV (IJ T.my boot_tuple) ie))))) (pV (jK (BJ (iW hr)) (jx zj T.rh cM (hV (dv 0) ie)) iZ)))) (iK (i8 vB)) jB) (iJ (uh (dv 0) (lM rfl (i9 (pgo 1) (i9 (pgo 2) kB))) lz) (iJ (lC (Ab (u9 (kU (ku (dC T.o_ (vq T) hr (hV (dv 1) ie)))) (pV (kU (IK L5 L5 (dG T.vJ) (dv 1) (dG T.yJ)))))) (iK (i8 vB)) jB) (iJ (lC (Ab (u9 (kU (ku (jx BL T.iO boot_isinstance (hV (dv 2) (hV (IJ T.my boot_tuple) ie))))) (pV (kU (ku (jx (NX rfl) T.OD boot_all (hV (vC rfl (csc ["tie"] ["many"] [1]) (mQ (dv 2)) (λ _ _ _ _=>(pgo 0)) jQ jZ (λ _ _ _ _=>mL) (λ _ _ _ _=>(dC T.oE (qR T) hr (hV (dv 1) (hV (dv 0) ie))))) ie))))))) (iK (i8 vB)) jB) (iK (i8 (ze (dC T.qo (A2 T) hr (hV (dv 2) ie)) (BD (u7 (BH (iW hr)) (jx PR T.rh cM (hV (dC T.qp (A0 T) hr (hV (dv 2) (hV iZ ie))) ie)) (dv 1))))))))))) Eh
theorem Hv (T:Txt K mg):OkT P w base T.oG 4 (spD K 1 sY):=(r8 T).imp λ vs H Q E ⟨ds,d,hl,is,e,q⟩=>⟨ds,d,hl,is,Hc e,q⟩
theorem kJ (T:Txt K mg):OkT P w base T.kc 5 (spD K 1 jF):=T.kc.okD (g:=pZ) AV (λ _ _ _ _ _ _ hr=>(iK (lC (kU (ku (dC T.oG (Hv T) hr (hV (dv 0) ie)))) (iK mO) jB))) Ak
theorem lI (T:Txt K mg):OkT P w base T.kh 3 (spD K 2 jG):=T.kh.okD (g:=nO) yb (λ _ _ _ _ _ _ hr=>(iK (lC (kU (ku (dC T.m9 (qx T) hr (hV (jJ (dv 0) iZ) (hV (dv 1) ie))))) (iK mO) jB))) xf
theorem A3 (T:Txt K mg):OkT P w base T.qr 1 (spD K 2 nF):=T.qr.okD (g:=qf) AW (λ _ _ _ _ _ _ hr=>(iK (lC (jK (BH (iW hr)) (dv 0) (dv 1)) (iK mO) jB))) AJ
theorem rn (T:Txt K mg):OkT P w base T.mw 6 (spD K 3 jU):=T.mw.okD (g:=oY) yI (λ _ _ _ _ _ _ hr=>(iJ (kE (dC T.kc (kJ T) hr (hV (dv 0) ie))) (iJ (kE (dC T.kh (lI T) hr (hV (dv 0) (hV (dv 1) ie)))) (iJ (kE (dC T.kh (lI T) hr (hV (dv 0) (hV (dv 2) ie)))) (iK (kE (dC T.qr (A3 T) hr (hV (dv 1) (hV (dv 2) ie))))))))) yG
theorem A4 (T:Txt K mg):OkT P w base T.qu 2 (spD K 2 nH):=T.qu.okD (g:=vd) AX (λ _ _ _ _ _ _ hr=>(iK (i8 (dC T.uR (ED T) hr (hV (lq Fm (lq pF (jJ (dv 0) iZ) (jJ (dv 1) iZ)) (lq pF (jJ (dv 1) iZ) (jJ (dv 0) iZ))) (hV (lq pF (jJ (dv 0) iZ) (jJ (dv 1) iZ)) ie)))))) AR
theorem pI (T:Txt K mg):OkT P w base T.lH 1 (spD K 2 jM):=T.lH.okD (g:=m7) vI (λ _ _ _ _ _ _ hr=>(iK (i8 (u7 L5 (lq pF (jJ (dv 0) iZ) (jJ (dv 1) iZ)) (lq pF (jJ (dv 1) iZ) (jJ (dv 0) iZ)))))) vF
theorem EG (T:Txt K mg):OkT P w base T.uP 1 (spD K 3 qP):=T.uP.okD (g:=uH) Eu (λ _ _ _ _ _ _ hr=>(iK (i8 (pW (hV (dv 0) (hV (og sN T.my boot_tuple (hV (jx (GW rfl) T.ye boot_sorted (hV (lq P_ (dv 1) (pW (hV (dv 2) ie))) ie)) ie)) ie)))))) Eo
theorem yg (T:Txt K mg):OkT P w base T.qQ 4 (spD K 2 mI):=T.qQ.okD (g:=uI) Ew (λ _ _ _ _ _ _ hr=>(iK (i8 (ze (dC T.oE (qR T) hr (hV (jJ (dv 0) iZ) (hV (dv 1) ie))) (BD (u7 (sR (iW hr)) (dv 1) (jJ (dv 0) iZ))))))) Ep
theorem A5 (T:Txt K mg):OkT P w base T.qt 5 (spD K 1 nJ):=T.qt.okD (g:=nK) o7 (λ _ _ _ _ _ _ hr=>(iJ (j6 (i:=1) o7.nd (jJ (dv 0) iZ)) (iJ (Qv (i:=2) o7.nd rfl (csc ["a","b"] ["many"] [1]) (qH T.ko (hV (dv 1) ie)) (λ _ _ _ _=>(pgo 0)) (n1:=1) (by decide) jQ jZ (λ _ _ _ _=>mL) (λ _ _ _ _=>(qH T.ko (hV (dv 2) ie))) (λ _ _ _ _=>(pgo 1)) (D5 (n1:=1) (n:=2) (by decide) (by decide)) jZ (λ _ _ _ _=>mL) (λ _ _ _ _=>(pW (hV (dv 0) (hV (dv 1) ie))))) (iK (i8 (vC rfl (csc ["tie"] ["web"] [0]) (mQ (dv 2)) (λ _ _ _ _=>(pgo 0)) jQ jZ (λ _ _ _ _=>(ug (ku (dC T.qQ (yg T) hr (hV (dv 1) (hV (dv 0) ie)))))) (λ _ _ _ _=>(dv 0)))))))) AS
theorem qy (T:Txt K mg):OkT P w base T.m_ 6 (spD K 2 lR):=T.m_.okD (g:=rQ) CU (λ _ _ _ _ _ _ hr=>(iJ (kE (dC T.kc (kJ T) hr (hV (dv 0) ie))) (iJ (lC (kU (ku (dC T.qQ (yg T) hr (hV (dv 0) (hV (dv 1) ie))))) (iK mO) jB) (iK (i8 (dC T.uP (EG T) hr (hV (jJ (dv 0) iZ) (hV (jJ (dv 0) iZ) (hV (dv 1) ie))))))))) CJ
end
section
variable {P:Program}{w:World}{K:g9}{mg:gZ}{base:Heap}
theorem CY (T:Txt K mg):OkT P w base T.rV 2 (spD K 4 oW):=by
 refine T.rV.F.ok ql (λ vs H Q E h=>?_) (λ cdv A outer s H vs Q E hr h=>?_)
 ·obtain⟨ds,d,hl,is,_⟩:=h;rw[is.length,hl];rfl
 ·obtain⟨ds,d,hl,is,e,q⟩:=h
  match ds,e with
  | [x,y,.dct kvs,.lst es],e =>
   obtain⟨v,e1,f1⟩:=hZ (show(dW x).bind _=_ from e);obtain⟨b,e2,f2⟩:=hZ f1;obtain⟨as,e3,f3⟩:=hZ f2;by_cases hc:b<v.1/\as.length=v.1
   ·rw[ae hc]at f3
    cases f3;clear e f1 f2;obtain⟨rfl,hg⟩:=kf e1;have e2:=jd e2;have e3:=k_ e3;subst e2 e3;refine⟨Sw K,iH (uh (dv 0) (lM rfl (i9 (pgo 4) (i9 (pgo 5) kB))) lz)
     (iH (jn (i:=6) ql.nd rfl (Or.inl rfl) (jD Ig (lx (ic iS iM)) (pv 4)))
     (iH (uW (HJ (Pe (NM hr) (pv 1) (pv 2)) (by with_unfolding_all rfl)) (iH (tT iS (zN (pv 6) (pv 1) set_list)) (jc (i8 (lq wZ (dv 6) (BE (hV (R_ (Nat.lt_of_succ_lt (iW hr)) (dv 2) (dv 1)) ie)))))) ml)
     (iH (jn (i:=7) ql.nd rfl (Or.inl rfl) (dC T.oF (rZ T) hr (hV (dv 5) (hV (dv 1) ie))))
     (iH (oH bD rfl (Fy (dv 7)) (pgo 8) (jc (tT (N6 iZ) (zN (pv 6) (pv 8) set_list))))
     (iH (tT (jx zj T.rh cM (hV (dv 7) ie)) (zN (pv 6) (pv 1) set_list))
     (jc (i8 (lq wZ (dv 6) (BE (hV (jJ (dv 3) (dv 1)) ie)))))))))),?_⟩
    exact hg.N5 hc.1 hc.2 is.start q
   ·rw[ag hc]at f3;cases f3
theorem vx (T:Txt K mg):OkT P w base T.ph 4 (spD K 3 kA):=T.ph.okD (g:=rM) CS (λ _ _ _ _ _ _ hr=>(iK (i8 (dC T.yc (Hu T) hr (hV (vC rfl (csc ["place"] ["web","given","added"] [0,1,2]) (qH T.ko (hV (jJ (dv 0) iZ) ie)) (λ _ _ _ _=>(pgo 0)) jQ jZ (λ _ _ _ _=>mL) (λ _ _ _ _=>(dC T.rV (CY T) hr (hV (dv 1) (hV (dv 0) (hV (dv 2) (hV (dv 3) ie))))))) ie))))) Cs
theorem yh (T:Txt K mg):OkT P w base T.tN 6 (spD K 2 nE):=T.tN.okD (g:=AG) KO (λ _ _ _ _ _ _ hr=>(iJ (kE (dC T.kc (kJ T) hr (hV (dv 0) ie))) (iJ (kE (dC T.kh (lI T) hr (hV (dv 0) (hV (dv 1) ie)))) (iK (i8 (dC T.ph (vx T) hr (hV (dv 0) (hV (FX (dv 1) iZ) (hV (dC T.uO (EB T) hr (hV (dv 0) ie)) ie))))))))) Kf
theorem EI (T:Txt K mg):OkT P w base T.uQ 7 (spD K 3 mG):=T.uQ.okD (g:=uC) Ex (λ _ _ _ _ _ _ hr=>(iJ (kE (dC T.mw (rn T) hr (hV (dv 0) (hV (dv 1) (hV (dv 2) ie))))) (iK (i8 (dC T.ph (vx T) hr (hV (dv 0) (hV (FX (dv 2) iZ) (hV (vC rfl (csc ["place"] ["a"] [1]) (qH T.ko (hV (jJ (dv 0) iZ) ie)) (λ _ _ _ _=>(pgo 0)) jQ jZ (λ _ _ _ _=>mL) (λ _ _ _ _=>(Pw (jK (BH (iW hr)) (dv 0) (dv 1)) iZ iZ))) ie)))))))) Ef
theorem pA (T:Txt K mg):OkT P w base T.ma 8 (spD K 3 j_):=T.ma.okD (g:=qh) tK (λ _ _ _ _ _ _ hr=>(iJ (j6 (i:=3) tK.nd (dC T.uQ (EI T) hr (hV (dv 0) (hV (dv 1) (hV (dv 2) ie))))) (iK (i8 (jJ (dv 3) (dv 1)))))) AM
theorem nM (T:Txt K mg):OkT P w base T.lT 7 (spD K 3 kY):=T.lT.okD (g:=rP) CT (λ _ _ _ _ _ _ hr=>(iJ (kE (dC T.kc (kJ T) hr (hV (dv 0) ie))) (iJ (kE (dC T.kh (lI T) hr (hV (dv 0) (hV (dv 1) ie)))) (iK (i8 (jJ (dC T.tN (yh T) hr (hV (dv 0) (hV (dv 2) ie))) (dv 1))))))) CI
theorem A6 (T:Txt K mg):OkT P w base T.yd 8 (spD K 4 rO):=T.yd.okD (g:=El) F8 (λ _ _ _ _ _ _ hr=>(iJ (j6 (i:=4) F8.nd (dC T.lT (nM T) hr (hV (dv 0) (hV (dv 1) (hV (dv 2) ie))))) (iK (i8 (dC T.AY (K4 T) hr (hV (dC T.lT (nM T) hr (hV (dC T.m_ (qy T) hr (hV (dv 0) (hV (dv 3) ie))) (hV (dv 1) (hV (dv 2) ie)))) (hV (dv 4) ie))))))) M0
theorem CZ (T:Txt K mg):OkT P w base T.rW 8 (spD K 3 o6):=T.rW.okD (g:=rR) lj (λ _ _ _ _ _ _ hr=>(iJ (kE (dC T.mw (rn T) hr (hV (dv 0) (hV (dv 1) (hV (dv 2) ie))))) (iJ (j6 (i:=3) lj.nd II) (iJ (j6 (i:=4) lj.nd (dC T.lT (nM T) hr (hV (dv 0) (hV (dv 1) (hV (dv 2) ie))))) (iJ (Ad bD rfl (mQ (dC T.qt (A5 T) hr (hV (dv 0) ie))) (pgo 5) jZ (iJ (j6 (i:=6) lj.nd (dC T.lT (nM T) hr (hV (dC T.m_ (qy T) hr (hV (dv 0) (hV (dv 5) ie))) (hV (dv 1) (hV (dv 2) ie))))) (iK (lC (ku (dC T.uJ (EE T) hr (hV (dv 6) (hV (dv 4) ie)))) (iJ (j6 (i:=3) lj.nd (dv 5)) (iK (j6 (i:=4) lj.nd (dv 6)))) jB)))) (iK (i8 (dv 3)))))))) CK
end
theorem imW (ww:Web):Imm (ip ww):=.tup (.cons (.int _) (.cons (.tup (n_.of λ d hd=>by obtain⟨t,_,rfl⟩:=aE.mp hd;exact .tup (.cons (.int _) (.cons (.int _) .nil)))) .nil))
theorem Te (n:Int){m:Nat}(h:0<m):∃ d:Nat,n % (m:Int)=d/\d<m:=⟨(n % (m:Int)).toNat,by have:=bU n (show(m:Int)≠0 by lia);lia,by have:=cS n (show(0:Int)<m by lia);have:=bU n (show(m:Int)≠0 by lia);lia⟩
section
variable {P:Program}{w:World}{K:g9}{mg:gZ}{base:Heap}
end
theorem Nh {a d m:Nat}(ha:a<m)(hd:d+1<m):∃ c:Nat,((a:Int)+1+(d:Int)) % (m:Int)=c/\c<m/\a≠c:=by
 by_cases h:a+1+d<m
 ·exact⟨a+1+d,by rw[Int.emod_eq_of_lt (by lia) (by lia)];lia,h,by lia⟩
 ·refine⟨a+1+d-m,?_,by lia,by lia⟩
  have e:(a:Int)+1+(d:Int)=((a+1+d-m:Nat):Int)+(m:Int):=by lia
  rw[e,Int.add_emod_right,Int.emod_eq_of_lt (by lia) (by lia)]
section
variable {P:Program}{w:World}{K:g9}{mg:gZ}{base:Heap}
def OK (K:g9):Sp:=λ vs H Q _=>∃ (p:Addr) (n:Int) (v:V) (ww:Web),vs=[.ref p,v]/\Good ww/\Is K H v (ip ww)/\H p=kb (.lst [.int n]) /\
 ∀ (t:Addr) (a c:Nat) (n':Int) (H':Hp),a<ww.1->c<ww.1->a≠c->H' p=kb (.lst [.int n'])->But p H H'->H' t=kb (.tup [iV a,iV c])->Q (.ref t) H'
theorem Rf (T:Txt K mg):OkT P w base T.rY 2 (OK K):=by
 refine T.rY.F.ok vp (λ vs H Q E h=>?_) (λ cdv A outer s H vs Q E hr h=>?_)
 ·obtain⟨p,n,v,ww,rfl,_⟩:=h;rfl
 ·obtain⟨p,n,v,ww,rfl,hg,iw,hp,q⟩:=h
  have hr1:kN 1 _:=hr.mono (by decide);refine⟨_,iH (jn (i:=2) vp.nd rfl (Or.inl rfl) (pC T.jw (mz T) hr (ic (pv 0) (ic (nY zU (pv 1) iS (λ _ _=>rfl)) iM))))
   (jc (lu (tW (ic (pv 2) (ic (jD tV (jD nN (jD nN (pv 2) iS) (pC T.jw (mz T) hr (ic (pv 0) (ic (jD v_ (nY zU (pv 1) iS (λ _ _=>rfl)) iS) iM)))) (nY zU (pv 1) iS (λ _ _=>rfl))) iM))))),?_⟩
  have w2:=hg.two;have w8:=hg.kg;obtain⟨r,xs,rfl,hr3,is3⟩:=iw.iR;obtain⟨v0,v1,rfl,j0,j1⟩:=is3.two;have hv0:=j0.int_inv;subst hv0;have mu:Mut (H p):=by rw[hp];trivial
  refine⟨_,rfl,_,rfl,r,_,_,.int ww.1,rfl,rfl,hr3,rfl,p,n,ww.1,rfl,hp,by lia,by lia,?_⟩;obtain⟨a,ha,am⟩:=Te n (show 0<ww.1 by lia);rw[ha];have t1:jS H (upd H p (.lst [.int (n / (ww.1:Int))])):=jS.upd mu;have b1:But p H (upd H p (.lst [.int (n / (ww.1:Int))])):=(But.refl p H).A1;have hp1:upd H p (.lst [.int (n / (ww.1:Int))]) p=kb (.lst [.int (n / (ww.1:Int))]):=ir;generalize n / (ww.1:Int)=n1 at *;generalize upd H p (.lst [.int n1])=H1 at *;have mu1:Mut (H1 p):=by rw[hp1];trivial
  refine⟨_,rfl,_,rfl,_,_,rfl,rfl,_,rfl,_,rfl,r,_,_,.int ww.1,rfl,rfl,t1.sD hr3,rfl,_,_,rfl,rfl,p,n1,(ww.1:Int)-1,rfl,hp1,by lia,by lia,?_⟩;obtain⟨d,hd,dm⟩:=Te n1 (show 0<ww.1-1 by lia);have ec:(((ww.1-1:Nat):Int))=(ww.1:Int)-1:=by lia
  rw[ec]at hd;rw[hd];have t2:jS H1 (upd H1 p (.lst [.int (n1 / ((ww.1:Int)-1))])):=jS.upd mu1;have b2:But p H (upd H1 p (.lst [.int (n1 / ((ww.1:Int)-1))])):=b1.A1;have hp2:upd H1 p (.lst [.int (n1 / ((ww.1:Int)-1))]) p=kb (.lst [.int (n1 / ((ww.1:Int)-1))]):=ir;generalize n1 / ((ww.1:Int)-1)=n2 at *;generalize upd H1 p (.lst [.int n2])=H2 at *;refine⟨_,_,rfl,rfl,_,rfl,r,_,_,.int ww.1,rfl,rfl,(t1.trans t2).sD hr3,rfl,_,_,rfl,rfl,by lia,by show 2<=sizeLine;decide,λ t ht=>?_⟩;obtain⟨c,hc,cm,ne⟩:=Nh am (show d+1<ww.1 by lia);have tp:t≠p:=λ z=>by subst z;rw[hp2]at ht;cases ht
  show Q (V.ref t) (upd H2 t (.tup [iV a,.int (((a:Int)+1+(d:Int)) % (ww.1:Int))]));rw[hc];exact q t a c n2 _ am cm ne (by rw[iI (aY tp)];exact hp2) (b2.new (b2.none ht tp)) ir
end
end K53
namespace L2
open PySem PySem.Spec PyProof.Rows Zp
section
variable {K:g9}{h:Heap}{mg:gZ}{n:Str}(X:K.In h)(G:h.Ns mainGlobals mg)
abbrev clT {dn:List g_}{C:Addr}(a:PySem.W.nsIn K mainGlobals n=kb (kb (.ref C)))(ex:PySem.W.excIn K C AO "ValueError.__new__"=V0)(mro:(PySem.W.clsIn K C).map (·.mro)=kb (.ref C::(dn++AO))):ClT K mg n dn:=⟨C,a,eu X G a,ex,mro⟩
abbrev wtT {C:Addr}(a:PySem.W.nsIn K mainGlobals n=kb (kb (.ref C)))(ex:PySem.W.excIn K C AO "ValueError.__new__"=V0)(mro:(PySem.W.clsIn K C).map (·.mro)=kb (.ref C::AO))(w1:PySem.W.instIn K (.ref C) (.type "tuple")=kb V1)
 (w2:PySem.W.subIn K (.ref C) (.type "BaseException")=kb V0):WT K mg n:=⟨⟨C,a,eu X G a,ex,mro⟩,w1,w2⟩
abbrev ckT {C D:Addr}{b:Bool}(a:PySem.W.nsIn K mainGlobals n=kb (kb (.ref D)))(k:PySem.W.kitOne K (.ref C) (.ref D)=kb b):CkT K mg n C b:=⟨D,eu X G a,k⟩
end
inductive RX where
 | nx (δ:DE) | rt (d:Dt) | ex (c:Str)
section
variable (K:g9)(C:Str->Addr)(E:XK)
end
section
variable (X:Cx)(C:Str->Addr)(E:XK)
end
section
variable {X:Cx}{C:Str->Addr}{E:XK}{e a b c:Expr}{es:List Expr}{pos p:Pos}{st:Stmt}{sts sa sb:List Stmt}
end
section
variable {P:Program}{w:World}{K:g9}{mg:gZ}{base:Heap}{N:List Str}{qual:Str}{scope:Scope}{f:Addr}{cd:g_}{A:Around}{outer:List Env}{s:hE}{H:Hp}{E:XK}{x:Str}{np cpos pos:Pos}{e0:Expr}{dn:List g_}{C:Str->Addr}
end
structure CiT (K:g9)(W C:Addr):Prop where
 ex:PySem.W.excIn K C AO "ValueError.__new__"=V0
 mro:(PySem.W.clsIn K C).map (·.mro)=kb (.ref C::([.ref W]++AO))
 ext:ExT K C
section
variable {K:g9}{mg:gZ}{W C D:Addr}
end
structure EcT (K:g9)(mg:gZ)(x:Str)(W:Addr) where
 C:Addr
 n:PySem.W.nsIn K mainGlobals x=kb (kb (.ref C))
 m:mg x=kb (.ref C)
 i:CiT K W C
structure Vi (K:g9)(mg:gZ) where
 w:WT K mg "WalkError"
 Ni:EcT K mg "NoWeb" w.C
 Hw:EcT K mg "NoPlace" w.C
 K8:EcT K mg "NoTree" w.C
 Nj:EcT K mg "NoTie" w.C
 K9:EcT K mg "NoText" w.C
 EJ:EcT K mg "NoNumber" w.C
 EK:EcT K mg "NoShares" w.C
 Nk:EcT K mg "NoTwo" w.C
 EL:EcT K mg "NoStream" w.C
 Hx:EcT K mg "NoPaper" w.C
 jN:EcT K mg "Apart" w.C
 Hy:EcT K mg "TooMany" w.C
 K_:EcT K mg "NoCode" w.C
 La:EcT K mg "NoDeed" w.C
 Lb:EcT K mg "NoLine" w.C
 nd:[w.C,Ni.C,Hw.C,K8.C,Nj.C,K9.C,EJ.C,EK.C,Nk.C,EL.C,Hx.C,jN.C,Hy.C,K_.C,La.C,Lb.C].Nodup
section
variable {K:g9}{mg:gZ}(T:Vi K mg)
end
inductive uT:List Expr->List Str->Prop
 | nil:uT [] []
 | cons {a:Str} {k:Nat} {p:Pos} {es:List Expr} {ss:List Str}:uT es ss->uT (.Constant (.str a) k p::es) (a::ss)
theorem uT.pd {X:Cx}{es:List Expr}{ss:List Str}(h:uT es ss):PDs X es (λ _=>kb (ss.map .str)):=by
 induction h with
 | nil=>exact ie
 | cons h ih=>exact hV u6 ih rfl
theorem Nl {es:List Expr}{p:Pos}{t:g6 Expr}{line:Nat}{env:Env}:swapsWith (.List es p) t line env=pure V1:=rfl
end L2
namespace K53
open PySem PySem.Spec PyProof.Rows L2 Zp
section
variable {P:Program}{w:World}{K:g9}{mg:gZ}{base:Heap}
theorem C0 {σ:L2.St}{H:Hp}{a C:Addr}(h0:σ[0]?=kb (kb (.ref a)))(h1:H a=kb (.ext (isC a (.ref C))))(bs:List Bool)(hl:bs.length<=100){Q:VK}(q:∀ v H',iA H H'->Is K H' v (.lst (bs.map .bl))->Q v H'):we (tIs C bs) σ H Q :=
 KJ h0 h1 bs _ ⟨by rw[ak,sizeLine_eq];lia,λ p hp=>q _ _ (iA.upd hp) (.lst ir (CL bs))⟩
theorem Lc {σ:L2.St}{H:Hp}{a C:Addr}{v:V}{bs:List Bool}(h0:σ[0]?=kb (kb (.ref a)))(h1:H a=kb (.ext (isC a (.ref C))))(hv:σ[1]?=kb (kb v))(iv:Is K H v (.lst (bs.map .bl)))(cs:List Bool)(hl:bs.length+cs.length<=100){Q:VK}(q:∀ v H',iA H H'->Is K H' v (.lst ((bs++cs).map .bl))->Q v H'):tOp (rD K yy) (iX 1) (we (tIs C cs)) σ H Q :=
 ⟨_,hv,C0 (K:=K) h0 h1 cs (by lia) λ v2 H2 s2 i2=>⟨_,_,_,iv.ext s2,i2,ae (by rw[ak,ak];lia),λ v3 H3 s3 i3=>q _ _ (s2.trans s3) (by rw[bp];exact i3)⟩⟩
theorem Vj {u:TS}{D:Ends}{σ:L2.St}{H:Hp}{a C:Addr}(h0:σ[0]?=kb (kb (.ref a)))(h1:H a=kb (.ext (isC a (.ref C))))(bs:List Bool)(hl:bs.length<=100)(q:∀ v H',iA H H'->Is K H' v (.lst (bs.map .bl))->u D (σ.set 1 (kb v)) H'):kL (md (we (tIs C bs)) (je 1)) u D σ H :=
 C0 (K:=K) h0 h1 bs hl q
theorem Rg {u:TS}{D:Ends}{σ:L2.St}{H:Hp}{a C:Addr}{v:V}{bs:List Bool}(h0:σ[0]?=kb (kb (.ref a)))(h1:H a=kb (.ext (isC a (.ref C))))(hv:σ[1]?=kb (kb v))(iv:Is K H v (.lst (bs.map .bl)))(cs:List Bool)(hl:bs.length+cs.length<=100)(q:∀ v H',iA H H'->Is K H' v (.lst ((bs++cs).map .bl))->u D (σ.set 1 (kb v)) H'):kL (md (tOp (rD K yy) (iX 1) (we (tIs C cs))) (je 1)) u D σ H :=
 Lc (K:=K) h0 h1 hv iv cs hl q
def Rh (C:Addr):Sp:=λ vs H Q _=>∃ a,vs=[.ref a]/\H a=kb (.ext (isC a (.ref C)))/\∀ H',iA H H'->Q (.str "apart") H'
theorem Hz:∃ es p1 p5 p2,kC l9=(kC l9).take 5++(.Assign [.Name "_law_words" p1] (.List es p5) p2::(kC l9).drop 6)/\uT es ["web","place","tree","tie","text","number","shares","two","stream","paper","apart","many"]:=⟨_,_,_,_,rfl,(.cons (.cons (.cons (.cons (.cons (.cons (.cons (.cons (.cons (.cons (.cons (.cons .nil))))))))))))⟩
theorem Nm (T:Txt K mg):Kv P w K mg base 1 T.nL.f T.nL.fd ["_law_e"] (Rh T.jh.C):=by
 refine T.nL.F.okN kH (λ vs H Q E h=>?_) (λ cdv A outer s H vs Q E hr h=>?_)
 ·obtain⟨a,rfl,_⟩:=h;rfl
 ·obtain⟨a,rfl,ha,q⟩:=h
  have hu:=hr.units;obtain⟨es,p1,p5,p2,eb,hes⟩:=Hz;rw[eb];refine⟨_,iH (jn (i:=1) kH.nd rfl (Or.inl rfl) (lx (ic (kZ T.iO T.jN T.M9 (pv 0)) (ic (kZ T.iO T.jN T.Hn (pv 0)) (ic (kZ T.iO T.jN T.KQ (pv 0)) (ic (kZ T.iO T.jN T.M_ (pv 0)) iM))))))
   (iH (jn (i:=1) kH.nd rfl (Or.inl rfl) (jD wZ (pv 1) (lx (ic (kZ T.iO T.jN T.KR (pv 0)) (ic (kZ T.iO T.jN T.Ey (pv 0)) (ic (kZ T.iO T.jN T.Ez (pv 0)) (ic (kZ T.iO T.jN T.Na (pv 0)) iM)))))))
   (iH (jn (i:=1) kH.nd rfl (Or.inl rfl) (jD wZ (pv 1) (lx (ic (kZ T.iO T.jN T.EA (pv 0)) (ic (kZ T.iO T.jN T.Ho (pv 0)) (ic (kZ T.iO T.jN T.Nb (pv 0)) (ic (kZ T.iO T.jN T.Hq (pv 0)) iM)))))))
   (iH (jn (i:=1) kH.nd rfl (Or.inl rfl) (jD wZ (pv 1) (lx (ic (kZ T.iO T.jN T.KS (pv 0)) (ic (kZ T.iO T.jN T.KU (pv 0)) (ic (kZ T.iO T.jN T.KW (pv 0)) iM))))))
   (iH (uW (PW.pt (NA (jK (BJ hu) (Q1 (dv 1) vB) iZ) (HK (HL (OR (Q3 T.iO T.AZ T.jN T.M8 (pv 0))))))) (jc (lu u6)) ml)
   (iJ (j6 (i:=2) kH.nd (BE hes.pd) (hs:=Nl)) (iK (i8 (jJ (lq wZ (dv 2) (BE (hV u6 (hV u6 (hV u6 ie))))) (Q2 (dv 1) vB))))))))),?_⟩
  refine Vj (K:=K) (σ:=[kb (.ref a),My,My]) (C:=T.jh.C) (a:=a) rfl ha [V1,V1,V1,V1] (by decide) λ v1 H1 s1 i1=>?_;refine Rg (K:=K) (σ:=[kb (.ref a),kb v1,My]) (C:=T.jh.C) (a:=a) rfl (s1 _ _ ha) rfl i1 [V1,V1,V1,V1] (by decide) λ v2 H2 s2 i2=>?_;refine Rg (K:=K) (σ:=[kb (.ref a),kb v2,My]) (C:=T.jh.C) (a:=a) rfl ((s1.trans s2) _ _ ha) rfl i2 [V1,V1,V0,V1] (by decide) λ v3 H3 s3 i3=>?_;refine Rg (K:=K) (σ:=[kb (.ref a),kb v3,My]) (C:=T.jh.C) (a:=a) rfl (((s1.trans s2).trans s3) _ _ ha) rfl i3 [V1,V1,V1] (by decide) λ v4 H4 s4 i4=>?_;have ss:=((s1.trans s2).trans s3).trans s4;have i4:Is K H4 v4 (.lst ([V1,V1,V1,V1,V1,V1,V1,V1,V1,V1,V0,V1,V1,V1,V1].map .bl)):=i4;have S:∀ H',iA H4 H'->Sat K H' [kb (.ref a),kb v4,My] [My,kb (.lst ([V1,V1,V1,V1,V1,V1,V1,V1,V1,V1,V0,V1,V1,V1,V1].map .bl)),My]:=λ H' s=>nQ (uS (i4.ext s) (nQ Hr));refine⟨_,V1,S H4 (iA.refl H4),rfl,λ H5 s5=>?_⟩;refine Gu ?_;refine⟨⟨a,rfl,(ss.trans s5) _ _ ha⟩,V0,rfl,Gu ?_⟩;refine⟨_,.rt (.str "apart"),S H5 s5,rfl,λ H6 s6=>?_⟩;intro v iv;rw[iv.str_inv];exact q H6 ((ss.trans s5).trans s6)
end
section
variable {P:Program}{w:World}{K:g9}{mg:gZ}{base:Heap}
def pB (ww:Web)(t:Nat×Nat):Bool:=decide ((bfs (km ww t) 0).length=ww.1)
def Vk (K:g9)(C:Addr):Sp:=λ vs H Q E=>∃ x y ww t,vs=[x,y]/\Is K H x (ip ww)/\Is K H y (iq t)/\Good ww/\t∈ww.2/\(pB ww t=V0->∀ v H',iA H H'->Is K H' v (ip (ww.1,km ww t))->Q v H')/\(pB ww t=V1->∀ e H',iA H H'->H' e=My->E (.ref C) (kb e) H')
theorem wo1 {ww:Web}(g:Good ww)(t:Dt):lL (ib 1 jF (hU (hW 0) hX)) [kb (ip ww),kb t,My,My,My]=kb (.nx [kb (ip ww),kb t,My,My,My]):=by have c:=cw_at g;generalize ip ww=W at *;simp[c]
theorem wo2 (ww:Web)(t:Dt):sH (kW 2 3) (hW 0) [kb (ip ww),kb t,My,My,My]=kb (.nx [kb (ip ww),kb t,kb (h_ ww.1),kb (jq ww.2),My]):=rfl
theorem wo3 {ww:Web}(g:Good ww){t:Nat×Nat}(ht:t∈ww.2):lJ (pU (kr (gTr (ib 2 kQ (hU (hW 2) (hU (hW 1) hX))))) (gB (iG (dIn V0) (hW 1) (hW 3)))) mM j5 [kb (ip ww),kb (iq t),kb (h_ ww.1),kb (jq ww.2),My]=kb (.nx [kb (ip ww),kb (iq t),kb (h_ ww.1),kb (jq ww.2),My]):=by obtain⟨l1,l2⟩:=g.ok t ht;have c1:=OB ww.1 t;rw[decide_eq_true l1,decide_eq_true l2,decide_eq_true (show t.1<ww.1 by lia)]at c1;have c2:=J9 V0 t ww.2;rw[ae rfl,decide_eq_true ht]at c2;generalize h_ ww.1=nn,iq t=pt,ip ww=W,jq ww.2=tt at *;simp[c1,c2]
theorem wo4 {ww:Web}(g:Good ww)(t:Nat×Nat):jW 4 (jE (hU (hW 2) (hU (ju lP (hU (gLC ["other"] [1] (gI kx (hW 3)) (ggN 0) (gB (iG lK (hW 0) (hW 1))) (hW 0)) hX)) hX))) [kb (ip ww),kb (iq t),kb (h_ ww.1),kb (jq ww.2),My]=kb (.nx [kb (ip ww),kb (iq t),kb (h_ ww.1),kb (jq ww.2),kb (ip (ww.1,km ww t))]):=by
 have lc:=ky (enc:=iq) (gg:=ggN 0) (gt:=gB (iG lK (hW 0) (hW 1))) (ge:=hW 0) (δc:=[My,kb (iq t)]) (δa:=λ s=>[kb (iq s),kb (iq t)]) (p:=λ s=>s != t) (enc':=iq) ww.2 λ a _=>⟨rfl,by
  have:lK (iq a) (iq t)=kb (.bl (a != t)):=by show(if sh3 (iq a) (iq t)=V0 then kb (Dt.bl (!dEq (iq a) (iq t))) else My)=_;rw[ae (show sh3 (iq a) (iq t)=V0 from rfl),xB];rfl
  generalize iq t=pt,iq a=pa at *;simp[this],λ _=>rfl⟩
 have lc:sG (ggN 0) (gB (iG lK (hW 0) (hW 1))) (hW 0) [My,kb (iq t)] (ww.2.map iq)=kb ((km ww t).map iq):=lc;have e1:ip (ww.1,km ww t)=.tup [h_ ww.1,jq (km ww t)]:=rfl;have n1:(ww.2.map iq).length<=1000:=by have:=g.len;rw[ak];lia
 have it:kx (jq ww.2)=kb (ww.2.map iq):=rfl;have c3:lP [.lst ((km ww t).map iq)]=kb (jq (km ww t)):=rfl;rw[e1];generalize h_ ww.1=nn,iq t=pt,ip ww=W,ww.2.map iq=tl,jq ww.2=tt,(km ww t).map iq=r2,jq (km ww t)=r at *;simp[it,lc,c3,n1]
theorem wo5 {ww:Web}(g:Good ww)(t:Nat×Nat):mH [ip (ww.1,km ww t)]=kb (.bl (pB ww t)):=by have h1:=dF (λ s=>s != t) ww.2;have h2:=g.len;have wf:wfB (ww.1,km ww t)=V0:=(AQ _).mpr ⟨⟨g.two,g.kg⟩,λ p hp=>g.ok p (aT.mp hp).1,vT (l:=km ww t) ((mv g.rise).filter _),show(km ww t).length<=30 from bg h1 h2⟩;show(dWf (ip (ww.1,km ww t))).map (λ w=>Dt.bl (decide ((bfs w.2 0).length=w.1)))=_;rw[F3 wf];rfl
theorem EM (T:Txt K mg):oJ P w K mg base (CXE P w) 6 T.lU.f T.lU.fd ["web","tie"] (Vk K T.jh.C):=by
 refine T.lU.F.okE o8 (λ vs H Q E h=>?_) (λ cdv A outer s H vs Q E hr h=>?_)
 ·obtain⟨x,y,_,_,rfl,_⟩:=h;rfl
 ·obtain⟨x,y,ww,t,rfl,ix,iy,g,ht,q1,q2⟩:=h
  refine⟨_,iH (kE (dC T.kc (kJ T) hr (hV (dv 0) ie)))
   (iH (uh (dv 0) (lM rfl (i9 (pgo 2) (i9 (pgo 3) kB))) lz)
   (iH (lC (Ab (u9 (kU (ku (dC T.oE (qR T) hr (hV (dv 2) (hV (dv 1) ie))))) (pV (jK (sR (iW hr)) (dv 1) (dv 3))))) (iK mO) jB)
   (iH (j6 (i:=4) o8.nd (pW (hV (dv 2) (hV (og sN T.my boot_tuple (hV (vC rfl (csc ["other"] ["tie"] [1]) (mQ (dv 3)) (λ _ _ _ _=>pgo 0) jQ jZ (λ _ _ _ _=>ug (jK (BJ (iW hr)) (dv 0) (dv 1))) (λ _ _ _ _=>dv 0)) ie)) ie))))
   (iH (uW (kU (ku (dC T.oG (r8 T) hr (hV (dv 4) ie)))) (jc (Ks T.jh hr.hd (ic u6 iM))) ml)
   (jc (i8 (dv 4))))))),?_⟩
  have S0:Sat K H [kb x,kb y,My,My,My] [kb (ip ww),kb (iq t),My,My,My]:=uS ix (uS iy (nQ (nQ (nQ Hr))));refine⟨_,_,S0,wo1 g _,λ H1 s1 σ1 S1=>?_⟩;refine⟨_,_,S1,wo2 ww _,λ H2 s2 σ2 S2=>?_⟩;refine⟨_,_,S2,wo3 g ht,λ H3 s3 σ3 S3=>?_⟩;refine⟨_,_,S3,wo4 g t,λ H4 s4 σ4 S4=>?_⟩;have ss:=((s1.trans s2).trans s3).trans s4;have e5:kr (gTr (ib 1 mH (hU (hW 4) hX))) [kb (ip ww),kb (iq t),kb (h_ ww.1),kb (jq ww.2),kb (ip (ww.1,km ww t))]=kb (!pB ww t):=by have:=wo5 g t;generalize ip (ww.1,km ww t)=r at *;simp[this]
  refine⟨_,_,S4,e5,λ H5 s5=>?_⟩;cases hc:pB ww t with
  | true =>refine Gu ?_;exact⟨_,_,S4.ext s5,rfl,λ H6 s6 v iv=>q1 hc v H6 ((ss.trans s5).trans s6) iv⟩
  | false =>refine Gv ?_;exact⟨_,_,S4.ext s5,rfl,λ v H6 s6 i6=>⟨by show 1<=sizeLine;decide,λ e he=>q2 hc e H6 ((ss.trans s5).trans s6) he⟩⟩
end
section
variable {P:Program}{w:World}{K:g9}{mg:gZ}{base:Heap}
def qS:List Dt->g6 Dt
 | [x,y]=>(dW x).bind λ ww=>(dNP y).bind λ t=>if t∈ww.2/\pB ww t=V0 then kb (ip (ww.1,km ww t)) else My
 | _=>My
def qT:DE->g6 RD:=(i_ (lL (ib 1 jF (hU (hW 0) hX))) (i_ (sH (kW 2 3) (hW 0)) (i_ (lJ (pU (kr (gTr (ib 2 kQ (hU (hW 2) (hU (hW 1) hX))))) (gB (iG (dIn V0) (hW 1) (hW 3)))) mM j5) (i_ (jW 4 (jE (hU (hW 2) (hU (ju lP (hU (gLC ["other"] [1] (gI kx (hW 3)) (ggN 0) (gB (iG lK (hW 0) (hW 1))) (hW 0)) hX)) hX)))) (i_ (lJ (kr (gTr (ib 1 mH (hU (hW 4) hX)))) mM j5) (jk (hW 4)))))))
abbrev HA:List Str:=["web","tie","many","ties","narrowed"]
theorem kK {g g':DE->g6 RD}{δ δ':DE}(h:g δ=kb (.nx δ')):i_ g g' δ=g' δ':=by unfold i_;rw[h];rfl
theorem EN:Hg 2 HA qS qT:=by
 intro ds d hl h;match ds,h with
 | [x,y],h =>
  obtain⟨ww,e1,h⟩:=hZ (show(dW x).bind _=_ from h);obtain⟨t,e2,h⟩:=hZ h;by_cases hc:t∈ww.2/\pB ww t=V0
  ·rw[ae hc]at h;cases h;obtain⟨rfl,g⟩:=kf e1;rw[oR e2];refine⟨.rt (ip (ww.1,km ww t)),?_,rfl⟩;show qT [kb (ip ww),kb (iq t),My,My,My]=_;unfold qT;rw[kK (wo1 g _),kK (wo2 ww _),kK (wo3 g hc.1),kK (wo4 g t)];have:=wo5 g t;rw[hc.2]at this;generalize ip (ww.1,km ww t)=r at *;simp[this]
  ·rw[ag hc]at h;cases h
def nq:List Dt->g6 Dt
 | [x,y]=>(dW x).bind λ ww=>(dNP y).bind λ t=>if t∈ww.2 then kb (if pB ww t=V0 then ip (ww.1,km ww t) else .str "apart") else My
 | _=>My
theorem C1 (T : Txt K mg) : OkT P w base T.lU 6 (spD K 2 qS) := T.lU.okD (g := qT) o8 (λ _ _ _ _ _ _ hr => (iJ (kE (dC T.kc (kJ T) hr (hV (dv 0) ie)))
      (iJ (uh (dv 0) (lM rfl (i9 (pgo 2) (i9 (pgo 3) kB))) lz)
      (iJ (lC (Ab (u9 (kU (ku (dC T.oE (qR T) hr (hV (dv 2) (hV (dv 1) ie))))) (pV (jK (sR (iW hr)) (dv 1) (dv 3))))) (iK mO) jB)
      (iJ (j6 (i := 4) o8.nd (pW (hV (dv 2) (hV (og sN T.my boot_tuple (hV (vC rfl (csc ["other"] ["tie"] [1]) (mQ (dv 3)) (λ _ _ _ _ => pgo 0) jQ jZ (λ _ _ _ _ => ug (jK (BJ (iW hr)) (dv 0) (dv 1))) (λ _ _ _ _ => dv 0)) ie)) ie))))
      (iJ (lC (kU (ku (dC T.oG (r8 T) hr (hV (dv 4) ie)))) (iK mO) jB)
      (iK (i8 (dv 4))))))))) EN
theorem Rj:iL ["_law_web_here","_law_tie","_law_e"] ["_law_web_here","_law_tie"] (il ya):=by trivial
theorem vy (T:Txt K mg):OkT P w base T.pj 7 (spD K 2 nq):=by
 refine T.pj.F.ok Rj (λ vs H Q E h=>?_) (λ cdv A outer s H vs Q E hr h=>?_)
 ·obtain⟨ds,d,hl,is,_⟩:=h;rw[is.length,hl];rfl
 ·obtain⟨ds,d,hl,is,e,q⟩:=h
  match ds,hl,is,e with
  | [dx,dy],_,is,e =>
   obtain⟨x,y,rfl,ix,iy⟩:=is.two;obtain⟨ww,e1,e⟩:=hZ (show(dW dx).bind _=_ from e);obtain⟨t,e2,e⟩:=hZ e;by_cases ht:t∈ww.2
   rotate_left
   ·rw[ag ht]at e;cases e
   rw[ae ht]at e;cases e;obtain⟨rfl,g⟩:=kf e1;rw[oR e2]at iy;refine⟨_,jc (QX (i:=2) T.qw (λ E' pn=>jc (lu (pCT T.lU (EM T) hr (ic (pv 0) (ic (pv 1) iM))))) (λ a pn=>jc (lu (pCN T.nL (Nm T) (hr.toN (by decide) _) (ic (pv 2) iM))))),?_⟩;refine⟨λ c a H'=>c=.ref T.jh.C/\iA H H'/\pB ww t=V1,?_,?_⟩
   ·refine⟨x,rfl,y,rfl,x,y,ww,t,rfl,ix,iy,g,ht,λ hc v H' s' iv=>q v H' s' ?_,λ hc e H' s' _=>⟨rfl,s',hc⟩⟩;rw[ae hc];exact iv
   ·rintro cls a H' ⟨rfl,s',hc⟩ ha
    refine⟨⟨_,rfl,T.M7⟩,λ σ1 hl1=>?_⟩;refine⟨.ref a,?_,a,rfl,ir,λ H2 s2=>q _ _ ((s'.trans (iA.upd ha)).trans s2) ?_⟩
    ·have:2<σ1.length:=by rw[hl1];exact eJ 2
     exact cu this
    ·rw[ag (by rw[hc];exact ax)];exact .str _
end
def A7 (ww:Web)(a:Nat):hG:=((V2 (ww.1-(a+1))).filter λ k=>!decide ((a,a+1+k)∈ww.2)).map λ k=>(a,a+1+k)
def upT (ww:Web)(i:Nat):hG:=(V2 i).flatMap (A7 ww)
theorem C2 (ww:Web)(i:Nat):upT ww (i+1)=upT ww i++A7 ww i:=by unfold upT;rw[eg,List.flatMap_append,List.flatMap_singleton]
theorem Ga {ww:Web}{t:Nat×Nat}:t∈upT ww ww.1↔jH ww t=V0:=by
 rw[oB];unfold upT A7;simp only[gH,ay,aE,aT,gz,decide_eq_false_iff_not];constructor
 ·rintro⟨a,ha,k,⟨hk,hn⟩,rfl⟩;exact⟨by show a<a+1+k;lia,by show a+1+k<ww.1;lia,hn⟩
 ·rintro⟨h1,h2,h3⟩
  refine⟨t.1,by lia,t.2-(t.1+1),⟨by lia,?_⟩,?_⟩
  ·rw[show t.1+1+(t.2-(t.1+1))=t.2 by lia];exact h3
  ·rw[show t.1+1+(t.2-(t.1+1))=t.2 by lia]
theorem C3 (ww:Web)(a:Nat):(A7 ww a).length<=ww.1:=by unfold A7;rw[ak];have:=dF (λ k=>!decide ((a,a+1+k)∈ww.2)) (V2 (ww.1-(a+1)));rw[bA]at this;lia
theorem Nn (ww:Web)(h8:ww.1<=8)(i:Nat):(upT ww i).length<=8*i:=by
 induction i with
 | zero=>exact aq 0
 | succ i ih=>rw[C2,aQ];have:=C3 ww i;lia
theorem Gb (a k:Nat):Dt.tup [h_ a,Dt.int ((a:Int)+1+k)]=iq (a,a+1+k):=by
 have:((a+1+k:Nat):Int)=(a:Int)+1+k:=by lia
 unfold iq h_;dsimp only;rw[this]
theorem Np {i j:Int}(h:(-1000000<=i/\i<=1000000)/\j<=1000000/\-1000000<=j):GH [.int i,.int j]=kb ((V2 (j-i).toNat).map λ(k:Nat)=>Dt.int (i+k)):=ae h
theorem Tf (ww:Web)(a:Nat)(R:List Dt->g6 (List Dt)):((hU (iG (dI (·+·)) (hW 2) (gC (.int 1))) (hU (iG dIx (hW 0) (gC (.int 0))) hX)) [kb (ip ww),My,kb (h_ a)]).bind R=R [.int ((a:Int)+1),h_ ww.1]:=rfl
theorem Eb {ww:Web}(g:Good ww){a:Nat}(ha:a<ww.1):gLC ["_law_other"] [2,0] (Jn (hU (iG (dI (·+·)) (hW 2) (gC (.int 1))) (hU (iG dIx (hW 0) (gC (.int 0))) hX))) (ggN 0) (gB (iG (dIn V0) (jE (hU (hW 1) (hU (hW 0) hX))) (iG dIx (hW 2) (gC (.int 1))))) (jE (hU (hW 1) (hU (hW 0) hX))) [kb (ip ww),My,kb (h_ a)]=kb (.lst ((A7 ww a).map iq)):=by
 have h8:=g.kg;have lc:=ky (enc:=λ k:Nat=>Dt.int ((a:Int)+1+k)) (gg:=ggN 0) (gt:=gB (iG (dIn V0) (jE (hU (hW 1) (hU (hW 0) hX))) (iG dIx (hW 2) (gC (.int 1))))) (ge:=jE (hU (hW 1) (hU (hW 0) hX))) (δc:=[My,kb (h_ a),kb (ip ww)]) (δa:=λ k=>[kb (Dt.int ((a:Int)+1+k)),kb (h_ a),kb (ip ww)]) (p:=λ k=>!decide ((a,a+1+k)∈ww.2)) (enc':=λ k=>iq (a,a+1+k)) (V2 (ww.1-(a+1))) λ k _=>⟨rfl,by
   have e:=Gb a k;have c:=J9 V0 (a,a+1+k) ww.2;rw[ae rfl]at c;have ix1:dIx (ip ww) (.int 1)=kb (jq ww.2):=rfl;generalize h_ a=na,Dt.int ((a:Int)+1+k)=x,ip ww=W,jq ww.2=tt,iq (a,a+1+k)=ep at *;simp[e,c,ix1],λ _=>by
   have e:=Gb a k;rw[<-e];generalize h_ a=na,Dt.int ((a:Int)+1+k)=x,ip ww=W at *;simp⟩
 have lc:sG (ggN 0) (gB (iG (dIn V0) (jE (hU (hW 1) (hU (hW 0) hX))) (iG dIx (hW 2) (gC (.int 1))))) (jE (hU (hW 1) (hU (hW 0) hX))) [My,kb (h_ a),kb (ip ww)] ((V2 (ww.1-(a+1))).map λ k:Nat=>Dt.int ((a:Int)+1+k))=kb ((A7 ww a).map iq):=by rw[lc,A7,aR];rfl
 have rg:GH [.int ((a:Int)+1),h_ ww.1]=kb ((V2 (ww.1-(a+1))).map λ k:Nat=>Dt.int ((a:Int)+1+k)):=by rw[Np (by lia),show((ww.1:Int)-((a:Int)+1)).toNat=ww.1-(a+1) by lia]
 have n1:((V2 (ww.1-(a+1))).map λ k:Nat=>Dt.int ((a:Int)+1+k)).length<=1000:=by rw[ak,bA];lia
 have cd:pD ["_law_other"] [2,0] [kb (ip ww),My,kb (h_ a)]=[My,kb (h_ a),kb (ip ww)]:=rfl;rw[UD,P7,Tf,rg,af,cd,ae n1,lc];rfl
def qz:List Dt->g6 Dt
 | [x]=>(dW x).map λ ww=>.lst ((upT ww ww.1).map iq)
 | _=>My
theorem Tg (l:hG):n_ (l.map iq):=n_.of λ d hd=>by obtain⟨t,_,rfl⟩:=aE.mp hd;exact .tup (.cons (.int _) (.cons (.int _) .nil))
section
variable {P:Program}{w:World}{K:g9}{mg:gZ}{base:Heap}
def iT (K:g9)(H:Hp)(x:V)(p:Addr)(ww:Web):Nat->L2.St->Hp->Prop:=λ i σ' H'=>∃ (vs:List V) (o:g6 V),σ'=[kb x,kb (.ref p),o]/\H' p=kb (.lst vs)/\Iss K H' vs ((upT ww i).map iq)/\iA H H'
theorem A8 (T:Txt K mg):OkT P w base T.qv 1 (spD K 1 qz):=by
 refine T.qv.F.ok tM (λ vs H Q E h=>?_) (λ cdv A outer s H vs Q E hr h=>?_)
 ·obtain⟨ds,d,hl,is,_⟩:=h;rw[is.length,hl];rfl
 ·obtain⟨ds,d,hl,is,e,q⟩:=h
  match ds,hl,is,e with
  | [dx],_,is,e =>
   obtain⟨ww,e1,e⟩:=iP (show(dW dx).map _=_ from e);subst e;obtain⟨rfl,g⟩:=kf e1;obtain⟨x,rfl,ix⟩:=is.one;have h8:=g.kg;refine⟨_,iH (jn (i:=1) tM.nd rfl (Or.inl rfl) (lx iM))
    (iH (oH bD rfl (mB rfl T.ko (ic (jJ (dv 0) iZ) iM)) (pgo 2)
     (jc (r_ (wo cY PySem.F.slot_list_extend PySem.F.type_list_extend Gp (pv 1) (ic (vC rfl (csc ["_law_other"] ["_law_one","_law_web_here"] [2,0]) (Mb T.ko (hV (lq RT (dv 2) iZ) (hV (jJ (dv 0) iZ) ie))) (λ _ _ _ _=>pgo 0) jQ jZ (λ _ _ _ _=>(ug (jK (sR (iW hr)) (pW (hV (dv 1) (hV (dv 0) ie))) (jJ (dv 2) iZ)))) (λ _ _ _ _=>(pW (hV (dv 1) (hV (dv 0) ie))))) iM)))))
    (jc (lu (pv 1)))),?_⟩
   refine⟨aZ _,λ p hp=>?_⟩;have s1:iA H (upd H p (.lst [])):=iA.upd hp;have S1:Sat K (upd H p (.lst [])) [kb x,kb (.ref p),My] [kb (ip ww),My,My]:=uS (ix.ext s1) (nQ (nQ Hr));refine⟨_,h_ ww.1,S1,rfl,λ v2 H2 s2 i2=>?_⟩;rw[i2.int_inv];refine⟨ww.1,rfl,by lia,by lia,nV (lo:=0) (n:=((ww.1:Nat):Int).toNat) (iT K H x p ww) ⟨[],My,rfl,s2 _ _ ir,.nil,s1.trans s2⟩ ?_ ?_⟩
   ·rintro i σ' H' hi ⟨vs,o,rfl,hv,iv,sm⟩
    have hi:i<ww.1:=by simpa using hi
    show Bc _ _ [kb x,kb (.ref p),kb (.int (0+(i:Int)))] H';rw[Int.zero_add];refine⟨_,rfl,.inl ⟨rfl,_,SqL.of hv⟩,_,_,uS (ix.ext sm) (nQ (uS (.int _) Hr)),Eb g hi,λ v3 H3 s3 i3=>?_⟩;obtain⟨b,zs,rfl,hb,iz⟩:=i3.lst_inv;have hv3:=s3 _ _ hv;have l1:=Nn ww h8 i;have l2:=C3 ww i;have e1:vs.length=(upT ww i).length:=by rw[iv.length,ak]
    have e2:zs.length=(A7 ww i).length:=by rw[iz.length,ak]
    refine⟨p,b,vs,zs,rfl,rfl,hv3,hb,by rw[sizeLine_eq];lia,vs++zs,_,rfl,ir,?_,?_⟩
    ·rw[C2,bp];have tx:jS H3 (upd H3 p (.lst (vs++zs))):=jS.upd (by rw[hv3];trivial);exact((iv.ext s3).text tx (Tg _)).append (iz.text tx (Tg _))
    ·exact kl (sm.trans s3) hp
   ·rintro σ' H' ⟨vs,o,rfl,hv,iv,sm⟩;rw[cH]at iv;exact⟨_,rfl,q _ _ sm (.lst hv iv)⟩
end
end K53
namespace L2
open PySem PySem.Spec PyProof.Rows Zp Qs PySem.SeqAt
section
variable {X:Cx}{a b e:Expr}{pos:Pos}
def Rk (x y:Dt):g6 Dt:=(BN x).bind λ a=>(BN y).bind λ b=>(u_ a).bind λ ns=>(u_ b).bind λ ms=>if ns.length=ms.length then kb (.bl (!decide (ns=ms))) else My
theorem HB:∀ (ns ms:List Str),wX (ns.map .str) (ms.map .str)=V0:=by
 intro ns;induction ns with
 | nil=>intro ms;rfl
 | cons n r ih =>
  intro ms;cases ms with
  | nil=>rfl
  | cons m t=>rw[au,au,wX,ih t];rfl
theorem HC:∀ (ns ms:List Str),kM (ns.map .str) (ms.map .str)=decide (ns=ms):=by
 intro ns;induction ns with
 | nil=>intro ms;cases ms<;>simp[kM]
 | cons n r ih =>
  intro ms;cases ms with
  | nil=>simp[kM]
  | cons m t =>rw[au,au,kM,ih t,vO,bj];simp
theorem Th (hu:X.A.units+2<cLine):OpR X (compareOp .NotEq) (rD X.K Rk):=by
 intro pins s σ H x y v u Q I rx ry hz;obtain⟨d,d',r,i,i',e,q⟩:=hz;obtain⟨a,e1,f1⟩:=hZ e;obtain⟨b,e2,f2⟩:=hZ f1;obtain⟨ns,e3,f3⟩:=hZ f2;obtain⟨ms,e4,f4⟩:=hZ f3;obtain rfl:=oq e1;obtain rfl:=oq e2;obtain rfl:=zk e3;obtain rfl:=zk e4;clear e f1 f2 f3 e1 e2 e3 e4;by_cases hl:ns.length=ms.length
 ·rw[ae hl]at f4
  cases f4;obtain⟨p,xs,rfl,hp,is⟩:=i.lst_inv;obtain⟨p',ys,rfl,hq,js⟩:=i'.lst_inv;cases rx;cases ry;obtain⟨its,rv,t1,_⟩:=I.list (SqL.of hp);obtain⟨its',rv',t2,_⟩:=I.list (SqL.of hq);have l1:its.length=ns.length:=by rw[<-rv.length,is.length,ak]
  have l2:its'.length=ms.length:=by rw[<-rv'.length,js.length,ak]
  have hsz:its.toArray.size=its'.toArray.size:=by rw[aC,aC,l1,l2,hl]
  have:=RcNeAt.lists (A:=X.A) (s:=s) (l:=p) (b:=p') (items:=its.toArray) (items2:=its'.toArray) (e:=eAt (ns.map .str) (ms.map .str)) t1.isList t2.isList hsz (by lia) (qG is js rv rv' λ h1 h2 i1 i2 r1 r2=>Fq (wY (HB ns ms) h1 h2) i1 i2 r1 r2);have ea:=oh is js rv rv';rw[hsz,Nat.min_self,beq_self_eq_true,Bool.and_true,HC]at ea;rw[hsz,ea]at this;exact this X.prog X.w X.xe _ ⟨.bl _,H,I,rfl,q _ H (iA.refl H) (.bl _)⟩
 ·rw[ag hl]at f4;cases f4
def yi:Dt->Dt->g6 Dt
 | .non,.non=>kb (.bl V1)
 | .tup _,.non=>kb (.bl V0)
 | _,_=>My
theorem Ld:OpR X (compareOp .IsNot) (rD X.K yi):=by
 intro pins s σ H x y v u Q I rx ry hz;obtain⟨d,d',r,i,i',e,q⟩:=hz;match d,d',e,i,i' with
 | .non,.non,e,i,i' =>cases e;refine EV pins s σ H x y v u Q I rx ry ⟨i'.Aa,?_⟩;rw[i.Aa];exact q _ H (iA.refl H) (.bl _)
 | .tup ds,.non,e,i,i' =>cases e;obtain⟨p,xs,rfl,hp,is⟩:=i.iR;exact EV pins s σ H _ y v u Q I rx ry ⟨i'.Aa,q _ H (iA.refl H) (.bl _)⟩
def Rl:Dt->Dt->g6 Dt
 | .str x,.str y=>kb (.bl (x==y))
 | .tup _,.str _=>kb (.bl V1)
 | _,_=>My
theorem Tn (hu:X.A.units+2<cLine):OpR X (compareOp .Eq) (rD X.K Rl):=by
 intro pins s σ H x y v u Q I rx ry hz;obtain⟨d,d',r,i,i',e,q⟩:=hz;match d,d',e,i,i' with
 | .str a,.str b,e,i,i' =>cases e;refine BH hu pins s σ H x y v u Q I rx ry ⟨_,_,.bl (dEq (.str a) (.str b)),i,i',ae rfl,λ v' H' s' iv=>q v' H' s' ?_⟩;rw[vO]at iv;exact iv
 | .tup ds,.str b,e,i,i' =>cases e;obtain⟨p,xs,rfl,hp,is⟩:=i.iR;rw[i'.str_inv]at ry;obtain⟨tk,rfl⟩:=ry;cases rx;obtain⟨its,rv,t1,_⟩:=I.tuple hp;exact RcAt.tuple_str b tk t1 (by lia) X.prog X.w X.xe _ ⟨.bl V1,H,I,rfl,q _ H (iA.refl H) (.bl _)⟩
theorem C4 {K:g9}{H:Hp}:∀ {vs:List V} {ds:List Dt},Iss K H vs ds->∀ k,Iss K H (vs.take k) (ds.take k)
 | _,_,_,0=>.nil
 | _,_,.nil,_+1=>.nil
 | _,_,.cons i is,k+1=>.cons i (C4 is k)
def dHd (k:Nat):Dt->g6 Dt
 | .lst ds=>kb (.lst (ds.take k))
 | _=>My
theorem HD (xs:List V)(k:Nat):yo xs My (kb (k:Int))=xs.take k:=by unfold yo;rw[HT.Bk,HT.zS];simp
theorem Rm {ga:DE->g6 Dt}{j:Nat}{p p2:Pos}(k:Nat)(ha:PD X a ga):PD X (.Subscript a (.Slice My (kb (.Constant (.int (k:Int)) j p)) My p2) pos) (λ δ=>(ga δ).bind (dHd k)) :=
 (Bl LA ha EX (EY (iS (i:=(k:Int))))).of λ σ H Q hz1=>by
  obtain⟨δ,d,S,e,q⟩:=hz1;obtain⟨x,e1,e2⟩:=hZ e;match x,e1,e2 with
  | .lst ds,e1,e2 =>cases e2;refine⟨δ,_,S,e1,λ v H1 s1 i1=>?_⟩;obtain⟨p,xs,rfl,hp,is⟩:=i1.lst_inv;refine⟨(k:Int),rfl,p,xs,rfl,SqL.of hp,λ p' hp'=>q _ _ (s1.trans (iA.upd hp')) (.lst ir ?_)⟩;rw[HD];exact(C4 is k).ext (iA.upd hp')
end
end L2
namespace L2
open PySem PySem.Spec PyProof.Rows Zp
section
variable {prog:Program}{w:World}{A:Around}{E:g0}{s:hE}
end
section
variable {X:Cx}{e k:Expr}{te tk:TE}{pos p2:Pos}
end
open PySem.SeqAt
section
variable {X:Cx}{pins:hJ}{σ:St}{H:Hp}{s:hE}
def Le:List Dt->List Dt->Bool
 | d::ds,e::es=>sh3 d e&&Le ds es
 | _,_=>V0
def sh4:Dt->Dt->Bool
 | .tup ds,.tup es=>Le ds es
 | d,e=>sh1 d e
theorem Lf {ds:List Dt}:∀ {es:List Dt},Le ds es=V0->∀ {j:Nat} {d e:Dt},ds[j]?=kb d->es[j]?=kb e->sh3 d e=V0:=by
 induction ds with
 | nil=>intro es _ j d e h;simp at h
 | cons x r ih =>
  intro es h j d e h1 h2;cases es with
  | nil=>simp at h2
  | cons y t =>
   rw[Le,bJ]at h;cases j with
   | zero=>simp at h1 h2;subst h1;subst h2;exact h.1
   | succ j=>exact ih h.2 (by simpa using h1) (by simpa using h2)
theorem To {d d':Dt}{v:V}(I:Inv X pins σ H s)(sh:sh2 d d'=V0)(i:Is X.K H v d)(i':Is X.K H v d'):dEq d d'=V0:=by
 by_cases ht:∃ ds es,d=.tup ds/\d'=.tup es
 ·obtain⟨ds,es,rfl,rfl⟩:=ht;obtain⟨p,xs,rfl,hp,is⟩:=i.iR;obtain⟨q,ys,e,hq,js⟩:=i'.iR;cases e;have:=I.nS hp hq;subst this;have sh:wX ds es=V0:=sh;rw[lW,DL sh is js]
 ·exact NV (Fs sh ht) i i'
theorem Rn (I:Inv X pins σ H s){ds:List Dt}:∀ {es:List Dt} {vs:List V},rC ds es=V0->Iss X.K H vs ds->Iss X.K H vs es->kM ds es=V0:=by
 induction ds with
 | nil =>intro es vs _ i j;cases i;cases j;simp[kM]
 | cons d r ih =>
  intro es vs h i j;cases i with
  | cons i1 i2 =>
   cases j with
   | cons j1 j2 =>rw[rC,bJ]at h;rw[kM,To I h.1 i1 j1,ih h.2 i2 j2];rfl
theorem Tp {A:Around}(I:Inv X pins σ H s)(hu:A.units+1<cLine){d d':Dt}{v v':V}{u u':g_}(sh:sh3 d d'=V0)(i:Is X.K H v d)(i':Is X.K H v' d')(r:RelV v u)(r':RelV v' u'):EqAt A s u u' (dEq d d'):=by
 by_cases ht:∃ ds es,d=.tup ds/\d'=.tup es
 ·obtain⟨ds,es,rfl,rfl⟩:=ht
  obtain⟨p,xs,rfl,hp,is⟩:=i.iR;obtain⟨q,ys,rfl,hq,js⟩:=i'.iR;cases r;cases r';have sh:rC ds es=V0:=sh;rw[lW];by_cases hpq:p=q
  ·subst hpq;have:=I.nS hp hq;subst this;rw[Rn I sh is js];exact EqAt.same _
  ·obtain⟨its,rv,t1,_⟩:=I.tuple hp
   obtain⟨its',rv',t2,_⟩:=I.tuple hq;refine EqAt.of_refs hpq ?_;have:=RcAt.tuples (A:=A) (s:=s) (l:=p) (b:=q) (items:=its.toArray) (items2:=its'.toArray) (e:=eAt ds es) t1 t2 (by lia)
    (qG is js rv rv' λ h1 h2 i1 i2 r1 r2=>Fu I (by show A.units+1<cLine;lia) (sI sh h1 h2) i1 i2 r1 r2)
   rw[oh is js rv rv']at this;exact this
 ·exact Fq (Ae sh ht) i i' r r'
def HE:Dt->Dt->g6 Dt:=λ d d'=>if sh4 d d'=V0 then kb (.bl (!dEq d d')) else My
theorem Nq {d d':Dt}(sh:sh4 d d'=V0)(ht:¬ ∃ ds es,d=.tup ds/\d'=.tup es):sh1 d d'=V0:=by
 cases d with
 | tup ds=>cases d' with
  | tup es=>exact(ht ⟨_,_,rfl,rfl⟩).elim
  | _=>exact sh
 | _=>exact sh
theorem Tq (hu:X.A.units+3<cLine):OpR X (compareOp .NotEq) (rD X.K HE):=by
 intro pins s σ H x y v u Q I rx ry hz;obtain⟨d,d',r,i,i',e,q⟩:=hz;by_cases sh:sh4 d d'=V0
 ·unfold HE at e
  rw[ae sh]at e;cases e;by_cases ht:∃ ds es,d=.tup ds/\d'=.tup es
  ·obtain⟨ds,es,rfl,rfl⟩:=ht;obtain⟨p,xs,rfl,hp,is⟩:=i.iR;obtain⟨p',ys,rfl,hq,js⟩:=i'.iR;cases rx;cases ry;have sh:Le ds es=V0:=sh;obtain⟨its,rv,t1,_⟩:=I.tuple hp;obtain⟨its',rv',t2,_⟩:=I.tuple hq;have:=RcNeAt.tuples (A:=X.A) (s:=s) (l:=p) (b:=p') (items:=its.toArray) (items2:=its'.toArray) (e:=eAt ds es) t1 t2 (by lia) (qG is js rv rv' λ h1 h2 i1 i2 r1 r2=>Tp I (by show X.A.units+1+1<cLine;lia) (Lf sh h1 h2) i1 i2 r1 r2);rw[oh is js rv rv']at this;exact this X.prog X.w X.xe _ ⟨.bl _,H,I,rfl,q _ H (iA.refl H) (by rw[lW];exact .bl _)⟩
  ·have sh:=Nq sh ht;obtain⟨s1,s2⟩:=Af sh i i';exact HV pins s σ H x y v u Q I rx ry ⟨s1,by rw[s2];exact q _ H (iA.refl H) (.bl _)⟩
 ·unfold HE at e;rw[ag sh]at e;cases e
end
end L2
namespace L2
open PySem PySem.Spec PyProof.Rows Zp Qs
theorem Ts (l:hG):kM (l.map iq) (l.map iq)=V0:=by
 induction l with
 | nil=>simp[kM]
 | cons t r ih=>rw[au,kM,xB,ih];simp
theorem Tt (l:hG):rC (l.map iq) (l.map iq)=V0:=by
 induction l with
 | nil=>rfl
 | cons t r ih=>rw[au,rC,ih];rfl
theorem Tu (w:Web):HE (ip w) (ip w)=kb (.bl V1):=by
 have sh:sh4 (ip w) (ip w)=V0:=by show(V0&&(rC (w.2.map iq) (w.2.map iq)&&V0))=V0;rw[Tt];rfl
 have eq:dEq (ip w) (ip w)=V0:=by show dEq (.tup [h_ w.1,.tup (w.2.map iq)]) (.tup [h_ w.1,.tup (w.2.map iq)])=V0;rw[lW,kM,kM,lW,Ts];simp[h_,dEq,kM]
 unfold HE;rw[ae sh,eq];rfl
theorem Ro (neg:Bool)(t:Nat×Nat)(l:hG):dIn neg (iq t) (.lst (l.map iq))=kb (.bl (if neg then !decide (t∈l) else decide (t∈l))):=by show(if ((l.map iq).all λ e=>sh2 e (iq t))=V0 then kb (Dt.bl (if neg then !qW (iq t) (l.map iq) else qW (iq t) (l.map iq))) else My)=_;rw[ae (by rw[gK,dk];intro x _;rfl),J6]
theorem Lg {x y:Rat}{e f:Nat}(h:bt x e)(h':bt y f):bt (x-y) (e+f+1):=by rw[Rat.sub_eq_add_neg];exact QE h ⟨by rw[Rat.neg_num,Int.natAbs_neg];exact h'.1,by rw[Rat.neg_den];exact h'.2⟩
theorem uU {w:Web}{a b:Nat}:∀ (l:hG) (best:g6 (Nat×Nat)),j8 w a b (l.foldl (jg w a b) best)<=j8 w a b best/\(∀ t∈l,j8 w a b (l.foldl (jg w a b) best)<=meQ (jb w t) b a)/\(l.foldl (jg w a b) best=best\/∃ t∈l,l.foldl (jg w a b) best=kb t/\meQ (jb w t) b a<j8 w a b best)
 | [],best=>⟨Rat.le_refl,(λ t h=>nomatch h),.inl rfl⟩
 | t::r,best=>by
  obtain⟨i1,i2,i3⟩:=uU (w:=w) (a:=a) (b:=b) r (jg w a b best t);rw[cA];generalize r.foldl (jg w a b) (jg w a b best t)=z at *;have k:j8 w a b (jg w a b best t)<=j8 w a b best/\j8 w a b (jg w a b best t)<=meQ (jb w t) b a/\(jg w a b best t=best\/jg w a b best t=kb t/\meQ (jb w t) b a<j8 w a b best):=by
   unfold jg;by_cases lt:meQ (jb w t) b a<j8 w a b best
   ·rw[ae lt];exact⟨Rat.le_of_lt lt,Rat.le_refl,.inr ⟨rfl,lt⟩⟩
   ·rw[ag lt];exact⟨Rat.le_refl,Rat.not_lt.mp lt,.inl rfl⟩
  obtain⟨k1,k2,k3⟩:=k;refine⟨Rat.le_trans i1 k1,λ u hu=>?_,?_⟩
  ·rcases aG.mp hu with rfl | hu
   ·exact Rat.le_trans i1 k2
   ·exact i2 u hu
  ·rcases i3 with e | ⟨u,hu,e,l3⟩
   ·rw[e]
    rcases k3 with e2 | ⟨e2,l2⟩
    ·exact .inl e2
    ·exact .inr ⟨t,av,e2,l2⟩
   ·exact .inr ⟨u,ar _ hu,e,(by grind)⟩
theorem Nr {w:Web}{a b:Nat}{t:Nat×Nat}(h:jH w t=V0):j8 w a b (jP w a b)<=meQ (jb w t) b a:=(uU (nI w) My).2.1 t (uE.mpr h)
theorem uV {w:Web}{a b:Nat}{t:Nat×Nat}(h:jP w a b=kb t):jH w t=V0/\meQ (jb w t) b a<meQ w b a:=by
 rcases (uU (w:=w) (a:=a) (b:=b) (nI w) My).2.2 with e | ⟨u,hu,e,l⟩
 ·have e:jP w a b=My:=e;rw[e]at h;cases h
 ·have e:jP w a b=kb u:=e;rw[e]at h;cases h;exact⟨uE.mp hu,l⟩
def C5 (w:Web)(a b:Nat):Dt:=iF (j8 w a b (jP w a b)-meQ w b a)
section
variable {w:Web}(g:Good w){a b:Nat}(ha:a<w.1)(hb:b<w.1)
include g ha hb
theorem Good.Lh {t:Nat×Nat}(h:jH w t=V0):sm (meQ (jb w t) b a-meQ w b a):=Ke (Lg ((g.l8 h).Cu hb a) (g.Cu hb a)) (by decide)
theorem Good.Nt:sm (j8 w a b (jP w a b)-meQ w b a):=by
 cases e:jP w a b with
 | none =>show sm (meQ w b a-meQ w b a);exact Ke (Lg (g.Cu hb a) (g.Cu hb a)) (by decide)
 | some t=>exact g.Lh ha hb (uV e).1
theorem Good.Nu {t:Nat×Nat}(h:jH w t=V0):jM [C5 w a b,iF (meQ (jb w t) b a-meQ w b a)]=kb (.bl V0):=by
 have le:=Nr (a:=a) (b:=b) h;have le:j8 w a b (jP w a b)-meQ w b a<=meQ (jb w t) b a-meQ w b a:=by grind
 rw[C5,Oy (g.Nt ha hb) (g.Lh ha hb h),decide_eq_true le]
end
end L2
namespace K53
open PySem PySem.Spec PyProof.Rows L2 Zp Qs
def gHd (k:Nat)(g:DE->g6 Dt):DE->g6 Dt:=λ δ=>(g δ).bind (dHd k)
@[simp] theorem VZ (k:Nat) (g:DE->g6 Dt) (δ:DE):gHd k g δ=(g δ).bind (dHd k):=rfl
def h0:DE->g6 RD:=(lJ (gB (iG Rk (gLC ["_law_tie"] [4] (gI kx (iG dIx (hW 4) (gC (.int 1)))) (ggN 0) jL (ib 2 nq (hU (hW 1) (hU (hW 0) hX)))) (iG Jf (zh (hU (gC (.str "apart")) hX)) (ju qV (hU (iG dIx (hW 4) (gC (.int 1))) hX))))) (jk (gC (.bl V1))) j5)
def h1:DE->g6 RD:=(jW 7 (ib 3 o6 (hU (hW 3) (hU (hW 5) (hU (hW 6) hX)))))
def h2:DE->g6 RD:=(jW 8 (ib 1 qz (hU (hW 3) hX)))
def h3:DE->g6 RD:=(lJ (IL (gB (iG yi (hW 7) (gC .non))) (pU (gB (iG (dIn V0) (hW 7) (hW 8))) (gB (iG (dIB λ i j=>decide (j<=i)) (iG dIx (ib 4 rO (hU (hW 3) (hU (hW 5) (hU (hW 6) (hU (hW 7) hX))))) (gC (.int 0))) (gC (.int 0)))))) (jk (gC (.bl V1))) j5)
def b4:DE->g6 RD:=(i_ (PK 10 11 (hU (ib 2 lR (hU (hW 3) (hU (hW 9) hX))) (hU (ib 4 rO (hU (hW 3) (hU (hW 5) (hU (hW 6) (hU (hW 9) hX))))) hX))) (i_ (lJ (pU (gB (iG HE (ib 2 qS (hU (hW 10) (hU (hW 9) hX))) (hW 3))) (gB (iG lK (ib 2 nH (hU (iG dIx (ib 2 nE (hU (hW 10) (hU (hW 6) hX))) (hW 5)) (hU (iG dIx (ib 2 nE (hU (hW 3) (hU (hW 6) hX))) (hW 5)) hX))) (hW 11)))) (jk (gC (.bl V1))) j5) (i_ (lJ (kr (gTr (ib 2 jM (hU (ib 3 j_ (hU (hW 10) (hU (hW 5) (hU (hW 6) hX)))) (hU (ib 3 j_ (hU (hW 3) (hU (hW 5) (hU (hW 6) hX)))) hX))))) (jk (gC (.bl V1))) j5) (lJ (kr (gTr (ib 2 jM (hU (gIf (gB (iG yi (hW 7) (gC .non))) (ib 4 rO (hU (hW 3) (hU (hW 5) (hU (hW 6) (hU (hW 7) hX))))) (jE (hU (gC (.int 0)) (hU (gC (.int 1)) hX)))) (hU (hW 11) hX))))) (jk (gC (.bl V1))) j5))))
def b5:DE->g6 RD:=(i_ (jW 12 (ib 2 nq (hU (hW 3) (hU (hW 9) hX)))) (lJ (gB (iG lK (iG Rl (hW 12) (gC (.str "apart"))) (iG kX (ib 3 j_ (hU (hW 3) (hU (iG dIx (hW 9) (gC (.int 0))) (hU (iG dIx (hW 9) (gC (.int 1))) hX)))) (jE (hU (gC (.int 1)) (hU (gC (.int 1)) hX)))))) (jk (gC (.bl V1))) j5))
def h4:DE->g6 RD:=(DK (gI kx (gHd 6 (hW 8))) (ggN 9) b4)
def h5:DE->g6 RD:=(DK (gI kx (iG dIx (hW 3) (gC (.int 1)))) (ggN 9) b5)
def hR:DE->g6 RD:=i_ h0 (i_ h1 (i_ h2 (i_ h3 (i_ h4 h5))))
section
variable {w:Web}(g:Good w)
include g
theorem Good.Li {t:Nat×Nat}(ht:t∈w.2):nq [ip w,iq t]=kb (if pB w t=V0 then ip (w.1,km w t) else .str "apart"):=by show(dW (ip w)).bind (λ ww=>(dNP (iq t)).bind λ t=>if t∈ww.2 then kb (if pB ww t=V0 then ip (ww.1,km ww t) else Dt.str "apart") else My)=_;rw[j7 g,oU,af,af,ae ht]
theorem Good.Tv {t:Nat×Nat}(h:jH w t=V0):qS [ip (jb w t),iq t]=kb (ip w):=by
 obtain⟨h1,h2,h3⟩:=oB.mp h;have gg:=g.l8 h;have hm:t∈(jb w t).2:=(lh _).mem_iff.mpr (ao _ (aN.mpr rfl));have e:=g.MT h3;have hc:pB (jb w t) t=V0:=by unfold pB;rw[e,decide_eq_true_iff];exact g.all
 show(dW (ip (jb w t))).bind (λ ww=>(dNP (iq t)).bind λ t=>if t∈ww.2/\pB ww t=V0 then kb (ip (ww.1,km ww t)) else My)=_;rw[j7 gg,oU,af,af,ae ⟨hm,hc⟩,e];rfl
theorem Good.Nv {t:Nat×Nat}(ht:t∈w.2):pB w t=!decide (hiQ w t.1 t.2=1):=by
 have ok:∀ p∈km w t,p.1<p.2/\p.2<w.1:=λ p hp=>g.ok p (aT.mp hp).1;have h:=tH ok (by have:=g.two;lia);have b:=g.Kn ht;unfold pB;by_cases c:hiQ w t.1 t.2=1
 ·rw[decide_eq_true c,decide_eq_false λ z=>b.mp c (h.mp z)];rfl
 ·rw[decide_eq_false c,decide_eq_true (aJ λ z=>c (b.mpr λ y=>z (h.mpr y)))];rfl
theorem Good.Nw:qz [ip w]=kb (.lst ((upT w w.1).map iq)):=by show(dW (ip w)).map (λ ww=>Dt.lst ((upT ww ww.1).map iq))=_;rw[j7 g];rfl
theorem Good.Tw (tr:w.2.length+1=w.1)(x0 x1 x2 x3 x5 x6 x7 x8 x9 x10 x11 x12:g6 Dt):h0 [x0,x1,x2,x3,kb (ip w),x5,x6,x7,x8,x9,x10,x11,x12]=kb (.nx [x0,x1,x2,x3,kb (ip w),x5,x6,x7,x8,x9,x10,x11,x12]):=by
 have lc:=kz (enc:=iq) (gg:=ggN 0) (ge:=ib 2 nq (hU (hW 1) (hU (hW 0) hX))) (δc:=[My,kb (ip w)]) (δa:=λ t=>[kb (iq t),kb (ip w)]) (enc':=λ _=>Dt.str "apart") w.2 λ t ht=>⟨rfl,by
  have c:=Good.Li g ht;have z:pB w t=V1:=by have ok:∀ p∈km w t,p.1<p.2/\p.2<w.1:=λ p hp=>g.ok p (aT.mp hp).1;have h:=tH ok (by have:=g.two;lia);exact decide_eq_false λ z=>g.Kq tr ht (h.mp z)
  rw[z,ag ax]at c;generalize iq t=pt,ip w=W at *;simp[c]⟩
 have e1:(w.2.map λ _=>Dt.str "apart")=(V3 w.2.length ("apart":Str)).map Dt.str:=by
  rw[List.map_replicate];induction w.2 with
  | nil=>rfl
  | cons t r ih=>rw[au,ih];rfl
 have n30:=g.len;have ix:dIx (ip w) (.int 1)=kb (jq w.2):=rfl;have it:kx (jq w.2)=kb (w.2.map iq):=rfl;have ln:qV [jq w.2]=kb (.int w.2.length):=by show kb (Dt.int ((w.2.map iq).length:Nat))=_;rw[ak]
 have rp:Jf (.lst [.str "apart"]) (.int w.2.length)=kb (.lst ((V3 w.2.length ("apart":Str)).map Dt.str)):=by show(if 0<=(w.2.length:Int)/\(w.2.length:Int)<=1000 then kb (Dt.lst (V3 (w.2.length:Int).toNat (Dt.str "apart"))) else My)=_;rw[ae (by lia),List.map_replicate];rfl
 have ne:∀ ns:List Str,Rk (.lst (ns.map Dt.str)) (.lst (ns.map Dt.str))=kb (.bl V1):=λ ns=>by show(u_ (ns.map Dt.str)).bind (λ a=>(u_ (ns.map Dt.str)).bind λ b=>if a.length=b.length then kb (Dt.bl (!decide (a=b))) else My)=_;simp
 rw[e1]at lc;have n1:(w.2.map iq).length<=1000:=by rw[ak];lia
 have ne:=ne (V3 w.2.length ("apart":Str));generalize (w.2.length:Int)=nn,ip w=W,jq w.2=tt,w.2.map iq=tl,(V3 w.2.length ("apart":Str)).map Dt.str=rr at *;simp[h0,ix,it,n1,lc,ln,rp,ne]
variable {a b:Nat}(ha:a<w.1)(hb:b<w.1)(ne:a≠b)
include ha hb ne
theorem Good.Lj (x0 x1 x2 x4 x7 x8 x9 x10 x11 x12:g6 Dt):h1 [x0,x1,x2,kb (ip w),x4,kb (h_ a),kb (h_ b),x7,x8,x9,x10,x11,x12]=kb (.nx [x0,x1,x2,kb (ip w),x4,kb (h_ a),kb (h_ b),kb (kR (jP w a b)),x8,x9,x10,x11,x12])/\h2 [x0,x1,x2,kb (ip w),x4,kb (h_ a),kb (h_ b),x7,x8,x9,x10,x11,x12]=kb (.nx [x0,x1,x2,kb (ip w),x4,kb (h_ a),kb (h_ b),x7,kb (.lst ((upT w w.1).map iq)),x9,x10,x11,x12]):=by
 have c1:=SK g ha hb ne;have c2:=Good.Nw g;generalize h_ b=nb,h_ a=na,ip w=W,kR (jP w a b)=eo,(upT w w.1).map iq=tt at *;constructor
 ·simp[h1,c1]
 ·simp[h2,c2]
theorem Good.Tx (x0 x1 x2 x4 x9 x10 x11 x12:g6 Dt):h3 [x0,x1,x2,kb (ip w),x4,kb (h_ a),kb (h_ b),kb (kR (jP w a b)),kb (.lst ((upT w w.1).map iq)),x9,x10,x11,x12]=kb (.nx [x0,x1,x2,kb (ip w),x4,kb (h_ a),kb (h_ b),kb (kR (jP w a b)),kb (.lst ((upT w w.1).map iq)),x9,x10,x11,x12]):=by
 cases e:jP w a b with
 | none =>have c1:yi .non .non=kb (.bl V1):=rfl;have e9:kR My=.non:=rfl;rw[e9];generalize h_ b=nb,h_ a=na,ip w=W,(upT w w.1).map iq=tt at *;simp[h3,c1]
 | some t =>
  obtain⟨hf,lt⟩:=uV e;have e9:kR (kb t)=iq t:=rfl;rw[e9];have c1:yi (iq t) .non=kb (.bl V0):=rfl;have c2:=Ro V0 t (upT w w.1);rw[ae rfl,decide_eq_true (Ga.mpr hf)]at c2;have c3:=KA g ha hb hf;have c4:dIx (iF (meQ (jb w t) b a-meQ w b a)) (.int 0)=kb (.int (meQ (jb w t) b a-meQ w b a).num):=rfl;have c5:¬ 0<=(meQ (jb w t) b a-meQ w b a).num:=λ z=>by have:=Rat.num_nonneg.mp z;grind
  generalize h_ b=nb,h_ a=na,ip w=W,iq t=pt,(upT w w.1).map iq=tt,iF (meQ (jb w t) b a-meQ w b a)=q,(meQ (jb w t) b a-meQ w b a).num=num at *;simp[h3,c1,c2,c3,c4,c5]
theorem Good.TB {t:Nat×Nat}(h:jH w t=V0)(x0 x1 x2 x4 x8 x10 x11 x12:g6 Dt):b4 [x0,x1,x2,kb (ip w),x4,kb (h_ a),kb (h_ b),kb (kR (jP w a b)),x8,kb (iq t),x10,x11,x12]=kb (.nx [x0,x1,x2,kb (ip w),x4,kb (h_ a),kb (h_ b),kb (kR (jP w a b)),x8,kb (iq t),kb (ip (jb w t)),kb (iF (meQ (jb w t) b a-meQ w b a)),x12]):=by
 have gg:=g.l8 h;obtain⟨f1,f2,f3⟩:=oB.mp h;have c1:=Kz g h;have c2:=KA g ha hb h;have c3:=Good.Tv g h;have c4:=Tu w;have c5:=QH gg (b:=b) hb;have c6:=Kg (w:=jb w t) (b:=b) (i:=a) ha;have c7:=QH g hb;have c8:=Kg (w:=w) (b:=b) ha;have c9:nH [iF (meQ (jb w t) b a),iF (meQ w b a)]=_:=Kh (gg.xN (b:=b) hb a) (g.xN hb a);have c10:=U0 (meQ (jb w t) b a-meQ w b a) (meQ (jb w t) b a-meQ w b a);rw[decide_eq_true rfl]at c10;have c11:=Ky gg (a:=a) (b:=b) ha hb ne;have c12:=Ky g ha hb ne;have c13:jM [iF (hiQ (jb w t) a b),iF (hiQ w a b)]=kb (.bl (decide (hiQ (jb w t) a b<=hiQ w a b))):=Oy (gg.Ov (a:=a) (b:=b) ha hb a) (g.Ov ha hb a);rw[decide_eq_true (g.QP f1 f2 f3 ha hb ne)]at c13;have c14:=g.Nu ha hb h;have c15:gIf (gB (iG yi (hW 7) (gC .non))) (ib 4 rO (hU (hW 3) (hU (hW 5) (hU (hW 6) (hU (hW 7) hX))))) (jE (hU (gC (.int 0)) (hU (gC (.int 1)) hX))) [x0,x1,x2,kb (ip w),x4,kb (h_ a),kb (h_ b),kb (kR (jP w a b)),x8,kb (iq t),kb (ip (jb w t)),kb (iF (meQ (jb w t) b a-meQ w b a)),x12]=kb (C5 w a b):=by
  unfold C5;cases e:jP w a b with
  | none =>
   have z:j8 w a b My-meQ w b a=0:=by show meQ w b a-meQ w b a=0;grind
   rw[z];rfl
  | some u =>have d1:=KA g ha hb (uV e).1;have d2:yi (iq u) .non=kb (.bl V0):=rfl;show _=kb (iF (meQ (jb w u) b a-meQ w b a));have e9:kR (kb u)=iq u:=rfl;rw[e9];generalize h_ b=nb,h_ a=na,ip w=W,iq u=pu,iq t=pt,ip (jb w t)=W2,iF (meQ (jb w u) b a-meQ w b a)=q2,iF (meQ (jb w t) b a-meQ w b a)=q at *;simp[d1,d2]
 generalize h_ b=nb,h_ a=na,iq t=pt,ip w=W,ip (jb w t)=W2,Dt.tup ((meL w b).map iF)=l2,Dt.tup ((meL (jb w t) b).map iF)=l1,iF (hiQ w a b)=q4,iF (hiQ (jb w t) a b)=q3,iF (meQ w b a)=q2,iF (meQ (jb w t) b a)=q1,iF (meQ (jb w t) b a-meQ w b a)=q,kR (jP w a b)=eo,C5 w a b=bv at *;have st:∀ (u v r:DE->g6 RD) (δ δ':DE),u δ=kb (.nx δ')->i_ u v δ=v δ':=λ u v r δ δ' h=>kK h;unfold b4;rw[kK (δ':=[x0,x1,x2,kb W,x4,kb na,kb nb,kb eo,x8,kb pt,kb W2,kb q,x12]) (by simp[c1,c2])];rw[kK (δ':=[x0,x1,x2,kb W,x4,kb na,kb nb,kb eo,x8,kb pt,kb W2,kb q,x12]) (by simp[c3,c4,c5,c6,c7,c8,c9,c10])];rw[kK (δ':=[x0,x1,x2,kb W,x4,kb na,kb nb,kb eo,x8,kb pt,kb W2,kb q,x12]) (by simp[c11,c12,c13])];simp only[R6,P6,UB,Me,P5,Mf,c15,af,cq];simp[c14]
theorem Good.Gd (x0 x1 x2 x4 x8 x12:g6 Dt):∀ (l:hG) (x9 x10 x11:g6 Dt),(∀ t∈l,jH w t=V0)->∃ y9 y10 y11,pE (ggN 9) b4 [x0,x1,x2,kb (ip w),x4,kb (h_ a),kb (h_ b),kb (kR (jP w a b)),x8,x9,x10,x11,x12] (l.map iq)=kb (.nx [x0,x1,x2,kb (ip w),x4,kb (h_ a),kb (h_ b),kb (kR (jP w a b)),x8,y9,y10,y11,x12])
 | [],x9,x10,x11,_=>⟨x9,x10,x11,rfl⟩
 | t::r,x9,x10,x11,hl=>by have st:=Good.TB g ha hb ne (hl t av) x0 x1 x2 x4 x8 x10 x11 x12;obtain⟨y9,y10,y11,ih⟩:=Good.Gd x0 x1 x2 x4 x8 x12 r (kb (iq t)) (kb (ip (jb w t))) (kb (iF (meQ (jb w t) b a-meQ w b a))) λ u hu=>hl u (ar _ hu);refine⟨y9,y10,y11,?_⟩;rw[au,pE];show(b4 [x0,x1,x2,kb (ip w),x4,kb (h_ a),kb (h_ b),kb (kR (jP w a b)),x8,kb (iq t),x10,x11,x12]).bind _=_;rw[st,af];exact ih
theorem Good.TC (x0 x1 x2 x4 x9 x10 x11 x12:g6 Dt):∃ y9 y10 y11,h4 [x0,x1,x2,kb (ip w),x4,kb (h_ a),kb (h_ b),kb (kR (jP w a b)),kb (.lst ((upT w w.1).map iq)),x9,x10,x11,x12]=kb (.nx [x0,x1,x2,kb (ip w),x4,kb (h_ a),kb (h_ b),kb (kR (jP w a b)),kb (.lst ((upT w w.1).map iq)),y9,y10,y11,x12]):=by obtain⟨y9,y10,y11,h⟩:=Good.Gd g ha hb ne x0 x1 x2 x4 (kb (.lst ((upT w w.1).map iq))) x12 ((upT w w.1).take 6) x9 x10 x11 λ t ht=>Ga.mp (List.mem_of_mem_take ht);refine⟨y9,y10,y11,?_⟩;rw[<-h,List.map_take];rfl
theorem Good.TF {t:Nat×Nat}(h:t∈w.2)(x0 x1 x2 x4 x5 x6 x7 x8 x10 x11 x12:g6 Dt):∃ y12,b5 [x0,x1,x2,kb (ip w),x4,x5,x6,x7,x8,kb (iq t),x10,x11,x12]=kb (.nx [x0,x1,x2,kb (ip w),x4,x5,x6,x7,x8,kb (iq t),x10,x11,y12]):=by
 obtain⟨l1,l2⟩:=g.ok t h;have c1:=Good.Li g h;have c2:=Good.Nv g h;have c3:=Ky g (a:=t.1) (b:=t.2) (by lia) l2 (by lia);have c4:=UZ (hiQ w t.1 t.2) 1;have e1:iF (1:Rat)=.tup [.int 1,.int 1]:=rfl;rw[e1]at c4;have i0:dIx (iq t) (.int 0)=kb (h_ t.1):=rfl;have i1:dIx (iq t) (.int 1)=kb (h_ t.2):=rfl;have e2:Rl (if pB w t=V0 then ip (w.1,km w t) else Dt.str "apart") (.str "apart")=kb (.bl (decide (hiQ w t.1 t.2=1))):=by
  rw[c2];by_cases c:hiQ w t.1 t.2=1
  ·rw[decide_eq_true c];rfl
  ·rw[decide_eq_false c];rfl
 have c5:∀ k:Bool,lK (.bl k) (.bl k)=kb (.bl V1):=λ k=>by cases k<;>rfl
 have c5:=c5 (decide (hiQ w t.1 t.2=1));generalize h_ t.2=n2,h_ t.1=n1,iq t=pt,ip w=W,iF (hiQ w t.1 t.2)=q,decide (hiQ w t.1 t.2=1)=k,(if pB w t=V0 then ip (w.1,km w t) else Dt.str "apart")=lf at *;exact⟨kb lf,by simp[b5,c1,c3,c4,i0,i1,e2,c5]⟩
theorem Good.Ge (x0 x1 x2 x4 x5 x6 x7 x8 x10 x11:g6 Dt):∀ (l:hG) (x9 x12:g6 Dt),(∀ t∈l,t∈w.2)->∃ y9 y12,pE (ggN 9) b5 [x0,x1,x2,kb (ip w),x4,x5,x6,x7,x8,x9,x10,x11,x12] (l.map iq)=kb (.nx [x0,x1,x2,kb (ip w),x4,x5,x6,x7,x8,y9,x10,x11,y12])
 | [],x9,x12,_=>⟨x9,x12,rfl⟩
 | t::r,x9,x12,hl=>by obtain⟨z12,st⟩:=Good.TF g ha hb ne (hl t av) x0 x1 x2 x4 x5 x6 x7 x8 x10 x11 x12;obtain⟨y9,y12,ih⟩:=Good.Ge x0 x1 x2 x4 x5 x6 x7 x8 x10 x11 r (kb (iq t)) z12 λ u hu=>hl u (ar _ hu);refine⟨y9,y12,?_⟩;rw[au,pE];show(b5 [x0,x1,x2,kb (ip w),x4,x5,x6,x7,x8,kb (iq t),x10,x11,x12]).bind _=_;rw[st,af];exact ih
theorem Good.TH {wt:Web}(gt:Good wt)(tr:wt.2.length+1=wt.1)(x0 x1 x2 x7 x8 x9 x10 x11 x12:g6 Dt):∃ y7 y8 y9 y10 y11 y12,hR [x0,x1,x2,kb (ip w),kb (ip wt),kb (h_ a),kb (h_ b),x7,x8,x9,x10,x11,x12]=kb (.nx [x0,x1,x2,kb (ip w),kb (ip wt),kb (h_ a),kb (h_ b),y7,y8,y9,y10,y11,y12]):=by obtain⟨y9,y10,y11,h⟩:=Good.TC g ha hb ne x0 x1 x2 (kb (ip wt)) x9 x10 x11 x12;obtain⟨z9,z12,k⟩:=Good.Ge g ha hb ne x0 x1 x2 (kb (ip wt)) (kb (h_ a)) (kb (h_ b)) (kb (kR (jP w a b))) (kb (.lst ((upT w w.1).map iq))) y10 y11 w.2 y9 x12 λ t ht=>ht;refine⟨kb (kR (jP w a b)),kb (.lst ((upT w w.1).map iq)),z9,y10,y11,z12,?_⟩;unfold hR;rw[kK (Good.Tw gt tr ..),kK (Good.Lj g ha hb ne ..).1,kK (Good.Lj g ha hb ne ..).2,kK (Good.Tx g ha hb ne ..),kK h];exact k
end
end K53
namespace K53
open PySem PySem.Spec PyProof.Rows L2 Zp
theorem hu3 {k:Nat}{A:Around}(hr:kN k A):A.units+3<cLine:=by have:=hr.units;lia
theorem TJ {σ:L2.St}(h:σ.length=13):∃ x0 x1 x2 x3 x4 x5 x6 x7 x8 x9 x10 x11 x12:g6 V,σ=[x0,x1,x2,x3,x4,x5,x6,x7,x8,x9,x10,x11,x12]:=by
 match σ,h with
 | [x0,x1,x2,x3,x4,x5,x6,x7,x8,x9,x10,x11,x12],_=>exact⟨_,_,_,_,_,_,_,_,_,_,_,_,_,rfl⟩
section
variable {P:Program}{w:World}{K:g9}{mg:gZ}{base:Heap}
def Gf (K:g9):Sp:=λ vs H Q _=>∃ (a:Addr) (ns:List Int),vs=[.ref a]/\SqL K H a (ns.map V.int)/\ns.length<=63/\∀ H',Q (.bl V0) H'
def tw (K:g9)(j:Nat):TS:=md (mf (OK K) [] E0 (iN (iX 2) (iN (iX j) jI))) (Bf K 2 (nu (je 5) (nu (je 6) Bd)))
def l5 (K:g9):TS:=kL (tw K 3) (tDS K hR)
def wb (K:g9)(th:Int)(i:Nat):TS:=md (mf (OJ K) [] E0 (iN (iX 2) (iN (tC (V.int 7)) (iN (tC (V.int th)) jI)))) (je i)
def lB (K:g9):TS:=kL (md (mf OH [] E0 (iN (mf (K1 K) [] E0 (iN (iX 0) (iN (iX 1) jI))) jI)) (je 2)) (kL (wb K 1 3) (kL (wb K 0 4) (l5 K)))
def lA (K:g9):TS:=kL (C_ (ET (iN (tCB Q8 (iN (tC (V.int 1)) (iN (tCB Q7 (iN (tCB (Q6 K) (iN (iX 0) jI)) (iN (tC (V.int 3)) jI))) jI))) jI)) (je 1) (lB K)) (Gj (tC (V.bl V0)))
theorem But.same {p:Addr}{H0 H H':Hp}(b:But p H H')(s:iA H0 H)(n:H0 p=Option.none):iA H0 H':=λ c o e=>b c o (s c o e) (iU e n)
theorem But.text {p:Addr}{H H':Hp}{n:Int}(b:But p H H')(hp:H p=kb (.lst [.int n])):jS H H':=⟨λ c xs e=>b c _ e (λ z=>by subst z;rw[hp]at e;cases e),λ c o u e=>b c _ e (λ z=>by subst z;rw[hp]at e;cases e)⟩
abbrev Nx (D:Ends)(H:Hp)(a0:Addr):Prop:=∀ σ' H',σ'.length=13->σ'[0]?=kb (kb (.ref a0))->iA H H'->D.nx σ' H'
theorem TK {D:Ends}{H H1:Hp}{a0 p:Addr}{i:Nat}{vw vt:V}{ww wt:Web}{n:Int}{x5 x6 x7 x8 x9 x10 x11 x12:g6 V}(hg:Good ww)(gt:Good wt)(tr:wt.2.length+1=wt.1)(i3:Is K H1 vw (ip ww))(i4:Is K H1 vt (ip wt))(sm:iA H H1)(p0:H p=My)(hp:H1 p=kb (.lst [.int n]))
  (h:Nx D H a0):l5 K D [kb (.ref a0),kb (iV i),kb (.ref p),kb vw,kb vt,x5,x6,x7,x8,x9,x10,x11,x12] H1:=by
 refine⟨_,rfl,_,rfl,p,n,vw,ww,rfl,hg,i3,hp,λ t a c n3 H7 am cm ne hp7 b7 ht=>?_⟩;have t7:=b7.text hp;have m3:=i3.text t7 (imW ww);have m4:=i4.text t7 (imW wt);have s7:=b7.same sm p0;refine⟨t,_,rfl,SqT.of ht,rfl,_,_,rfl,_,_,rfl,rfl,?_⟩;obtain⟨y7,y8,y9,y10,y11,y12,hR⟩:=Good.TH hg am cm ne gt tr (kb (.opq (.ref a0))) My My My My My My My My;refine⟨_,_,uS (.opq _) (nQ (nQ (uS m3 (uS m4 (uS (.int _) (uS (.int _) (nQ (nQ (nQ (nQ (nQ (nQ Hr)))))))))))),hR,λ H8 s8 σ8 S8=>h σ8 H8 S8.len ?_ (s7.trans s8)⟩;obtain⟨v7,e7,i7⟩:=S8.at_ 0 _ rfl;rw[e7,i7.LS]
theorem TL {D:Ends}{H H0:Hp}{a0:Addr}{ns:List Int}{i:Nat}{x2 x3 x4 x5 x6 x7 x8 x9 x10 x11 x12:g6 V}(hS:SqL K H a0 (ns.map V.int))(h63:ns.length<=63)(sm0:iA H H0)
  (h:Nx D H a0):lB K D [kb (.ref a0),kb (iV i),x2,x3,x4,x5,x6,x7,x8,x9,x10,x11,x12] H0:=by
 refine⟨_,rfl,_,rfl,a0,ns,i,rfl,sm0.seq hS,h63,λ c=>⟨c,rfl,λ p n hp=>?_⟩⟩;have p0:H p=My:=sm0.free hp;refine⟨_,rfl,p,n,1,rfl,aq _,ir,λ v H1 n1 ww hg _ iw hp1 but1=>?_⟩;have sm1:iA H H1:=λ b o e=>but1 b o (by rw[iI (iU e p0)];exact sm0 b o e) (iU e p0);refine⟨_,rfl,p,n1,0,rfl,aZ _,hp1,λ v2 H2 n2 wt gt htr it hp2 but2=>?_⟩;have but2:But p H1 H2:=but2;exact TK hg gt (htr rfl) (iw.text (but2.text hp1) (imW ww)) it (but2.same sm1 p0) p0 hp2 h
theorem TM {D:Ends}{H:Hp}{a0:Addr}{ns:List Int}(hS:SqL K H a0 (ns.map V.int))(h63:ns.length<=63)(q:∀ H',D.rt (.bl V0) H'):lA K D [kb (.ref a0),My,My,My,My,My,My,My,My,My,My,My,My] H:=by
 refine⟨_,rfl,a0,_,rfl,.inl hS,_,_,rfl,_,_,rfl,_,rfl,?_,?_,?_⟩
 ·lia
 ·lia
 ·generalize (if (if (3:Int)<((ns.map V.int).length:Int) then (3:Int) else ((ns.map V.int).length:Int))>1 then (if (3:Int)<((ns.map V.int).length:Int) then (3:Int) else ((ns.map V.int).length:Int)) else 1)=N
  refine nV (lo:=0) (n:=N.toNat) (λ i σ' H'=>σ'.length=13/\σ'[0]?=kb (kb (.ref a0))/\iA H H') ⟨rfl,rfl,iA.refl H⟩ ?_ ?_
  ·rintro i σ' H0 hi ⟨hl,h0,sm0⟩;obtain⟨x0,x1,x2,x3,x4,x5,x6,x7,x8,x9,x10,x11,x12,rfl⟩:=TJ hl;have h0:kb x0=kb (kb (V.ref a0)):=h0;cases h0;rw[Int.zero_add];exact TL hS h63 sm0 λ σ' H' h1 h2 h3=>⟨h1,h2,h3⟩
  ·rintro σ' H' _;exact q H'
theorem Rp (T:Txt K mg):OkT P w base T.F9 9 (Gf K):=by
 refine T.F9.F.ok qm (λ vs H Q E h=>?_) (λ cdv A outer s H vs Q E hr h=>?_)
 ·obtain⟨a,ns,rfl,_⟩:=h;rfl
 ·obtain⟨a0,ns,rfl,hS,h63,q⟩:=h
  refine⟨lA K,iH (oH bD rfl (mB rfl T.ko (ic (kO (yN rfl) rfl T.OF boot_max (ic iS (ic (kO (yO rfl) rfl T.OE boot_min (ic (kO mr rfl T.rh cM (ic (pv 0) iM)) (ic iS iM))) iM))) iM)) (pgo 1)
   (iH (jn (i:=2) qm.nd rfl (Or.inl rfl) (pC T.rX (Q5 T) hr (ic (pC T.nc (Nd T) hr (ic (pv 0) (ic (pv 1) iM))) iM)))
   (iH (jn (i:=3) qm.nd rfl (Or.inl rfl) (pC T.ng (K2 T) hr (ic (pv 2) (ic iS (ic iS iM))))) (iH (jn (i:=4) qm.nd rfl (Or.inr rfl) (pC T.ng (K2 T) hr (ic (pv 2) (ic iS (ic iS iM))))) (iH (tT (pC T.rY (Rf T) hr (ic (pv 2) (ic (pv 3) iM))) (lM rfl (i9 (pgo 5) (i9 (pgo 6) kB))))
   (iJ (lC (jK (Th (iW hr)) (vC rfl (csc ["_law_tie"] ["_law_tree"] [4]) (mQ (jJ (dv 4) iZ)) (λ _ _ _ _=>(pgo 0)) jQ jZ (λ _ _ _ _=>mL) (λ _ _ _ _=>(dC T.pj (vy T) hr (hV (dv 1) (hV (dv 0) ie))))) (lq RV (BE (hV u6 ie)) (jx zj T.rh cM (hV (jJ (dv 4) iZ) ie)))) (iK (i8 vB)) jB) (iJ (j6 (i:=7) qm.nd (dC T.rW (CZ T) hr (hV (dv 3) (hV (dv 5) (hV (dv 6) ie))))) (iJ (j6 (i:=8) qm.nd (dC T.qv (A8 T) hr (hV (dv 3) ie))) (iJ (lC (Ab (Pu (jK Ld (dv 7) II) (LV (Ab (u9 (jK (sR (iW hr)) (dv 7) (dv 8)) (pV (jK Ut (jJ (dC T.yd (A6 T) hr (hV (dv 3) (hV (dv 5) (hV (dv 6) (hV (dv 7) ie))))) iZ) iZ))))))) (iK (i8 vB)) jB) (iJ (Ad bD rfl (mQ (Rm 6 (dv 8))) (pgo 9) jZ (iJ (lO (i:=10) (j:=11) rfl qm.nd (hV (dC T.m_ (qy T) hr (hV (dv 3) (hV (dv 9) ie))) (hV (dC T.yd (A6 T) hr (hV (dv 3) (hV (dv 5) (hV (dv 6) (hV (dv 9) ie))))) ie))) (iJ (lC (Ab (u9 (jK (Tq (hu3 hr)) (dC T.lU (C1 T) hr (hV (dv 10) (hV (dv 9) ie))) (dv 3)) (pV (jK (BJ (iW hr)) (dC T.qu (A4 T) hr (hV (jJ (dC T.tN (yh T) hr (hV (dv 10) (hV (dv 6) ie))) (dv 5)) (hV (jJ (dC T.tN (yh T) hr (hV (dv 3) (hV (dv 6) ie))) (dv 5)) ie))) (dv 11))))) (iK (i8 vB)) jB) (iJ (lC (kU (ku (dC T.lH (pI T) hr (hV (dC T.ma (pA T) hr (hV (dv 10) (hV (dv 5) (hV (dv 6) ie)))) (hV (dC T.ma (pA T) hr (hV (dv 3) (hV (dv 5) (hV (dv 6) ie)))) ie))))) (iK (i8 vB)) jB) (iK (lC (kU (ku (dC T.lH (pI T) hr (hV (Pw (jK Ld (dv 7) II) (dC T.yd (A6 T) hr (hV (dv 3) (hV (dv 5) (hV (dv 6) (hV (dv 7) ie))))) (pW (hV iZ (hV iZ ie)))) (hV (dv 11) ie))))) (iK (i8 vB)) jB)))))) (iK (Ad bD rfl (mQ (jJ (dv 3) iZ)) (pgo 9) jZ (iJ (j6 (i:=12) qm.nd (dC T.pj (vy T) hr (hV (dv 3) (hV (dv 9) ie)))) (iK (lC (jK (BJ (iW hr)) (u7 (Tn (iW hr)) (dv 12) u6) (u7 (BH (iW hr)) (dC T.ma (pA T) hr (hV (dv 3) (hV (jJ (dv 9) iZ) (hV (jJ (dv 9) iZ) ie)))) (pW (hV iZ (hV iZ ie))))) (iK (i8 vB)) jB))))))))))))))) (jc (lu Nz)),?_⟩
  exact TM hS h63 q
end
end K53
end
namespace K53
open PySem PySem.Spec PyProof.Rows L2 Zp
theorem all_mk {l:PySem.W.OpenLaw}{w:World}{K:g9}{mg:gZ}{fa:Addr}(T:Txt K mg)(hfa:mg "law"=kb (.ref fa)):∃ fd:FuncData,(∀ (s:hE) (v:g_),BindsTo s fd ⟨[v],[]⟩ [("_law_script",v)])/\∀ base:Heap,K.In base->base.Ns mainGlobals mg->oJ l.prog w K mg base CX0 9 fa fd ["_law_script"] (Gf K):=by have e:=hfa.symm.trans T.F9.m;cases e;exact⟨_,λ s v=>.of_eq (T.F9.bb [v] rfl),λ _ _ _=>Rp T⟩
theorem walk {l:PySem.W.OpenLaw}{q:Program}{loose:List Str}{XP:(Str->g6 g_)->Heap->Prop}{YP:World->Heap->Prop}{d:DefRec}{K:Params->g9}(hn:l.most=kb 63)(hdf:d.params.defaults=[])
  (hY:∀ (w:World) (h:Heap),YP w h->(K w.params).In h)
  (F:∀ (w:World) (mg:gZ) (fa:Addr) (h:Heap),(K w.params).In h->h.Ns mainGlobals mg->mg d.name=kb (.ref fa) ->
   ∃ fd:FuncData,(∀ (s:hE) (u:g_),BindsTo s fd ⟨[u],[]⟩ [("_law_script",u)])/\∀ base:Heap,(K w.params).In base->base.Ns mainGlobals mg->oJ l.prog w (K w.params) mg base CX0 9 fa fd ["_law_script"] (Gf (K w.params))) :
  PySem.W.WalkO q loose XP YP l.row.toRowW d [] (λ f vs=>PySem.call f vs) :=
 L2.E8 (n:=63) (k:=9) (x:="_law_script") (CX:=λ _=>CX0) (sp:=λ w=>Gf (K w.params)) hn (by decide) hdf ⟨rfl,by decide,by decide,rfl⟩ hY F (λ _ _ a ns hl _ hS=>⟨a,ns,rfl,hS,hl,λ _=>rfl⟩) λ _ _ _ _ _ z=>z
end K53
end Internal
open Internal
namespace PySem.W.Fast
theorem tw13074080181383902964:True:=trivial
theorem tw2848217046934151127:True:=trivial
theorem tw13746425125627093754:True:=trivial
theorem tw11932472263264473003:True:=trivial
theorem tw18228278034750002928:True:=trivial
theorem tw11019058883263779593:True:=trivial
theorem tw12643206430047795238:True:=trivial
theorem tw4478753402441037392:True:=trivial
theorem tw17360359391319985404:True:=trivial
theorem tw12495063835395375948:True:=trivial
theorem tw11914257770127281752:True:=trivial
theorem tw1162655927608366305:True:=trivial
theorem tw3301180205522589199:True:=trivial
theorem tw1897152844641145867:True:=trivial
theorem tw456334456134151417:True:=trivial
theorem tw8141816830431181346:True:=trivial
theorem tw11436980276058799728:True:=trivial
theorem tw493271353796400087:True:=trivial
theorem tw13436406131313693876:True:=trivial
theorem tw13282030424245532853:True:=trivial
theorem tw1581656013985857160:True:=trivial
theorem tw1444254118012891162:True:=trivial
theorem tw10844069710888610247:True:=trivial
theorem tw1971256467586969654:True:=trivial
theorem tw9062270855070955467:True:=trivial
theorem tw6664548751552792171:True:=trivial
theorem tw3464019802372836709:True:=trivial
theorem tw6704939246592636400:True:=trivial
theorem tw14910951172719988346:True:=trivial
theorem tw6375195624545091774:True:=trivial
theorem tw11847106079530269453:True:=trivial
theorem tw8513400797596485439:True:=trivial
theorem tw10428922626960751346:True:=trivial
theorem tw317911714546329738:True:=trivial
theorem tw12541333716177021095:True:=trivial
theorem tw8242508621471553873:True:=trivial
theorem tw2228413900946086645:True:=trivial
theorem tw4454046614566639318:True:=trivial
theorem tw4870490706313053511:True:=trivial
theorem tw12660339189818701270:True:=trivial
theorem tw17800886375585444432:True:=trivial
theorem tw6340158446200197938:True:=trivial
theorem tw3211528022493676203:True:=trivial
theorem tw18022295339550755186:True:=trivial
theorem tw7263979049479005136:True:=trivial
theorem tw8984587413433829069:True:=trivial
theorem tw15859410760825495570:True:=trivial
theorem tw3750659778582374927:True:=trivial
theorem tw12807970529348567745:True:=trivial
theorem tw3155235269660516427:True:=trivial
theorem tw3252783549186983610:True:=trivial
theorem tw14854367886870449982:True:=trivial
theorem tw14221040029794565299:True:=trivial
theorem tw7755013374019750791:True:=trivial
theorem tw14573672822061150678:True:=trivial
theorem tw10177259363998732417:True:=trivial
theorem tw16232419541979840767:True:=trivial
theorem tw10506259155281655927:True:=trivial
theorem tw10850832910432098315:True:=trivial
theorem tw16493229692153461527:True:=trivial
theorem tw1124966520832993794:True:=trivial
end PySem.W.Fast
open PySem PySem.W PyProof.Rows
set_option maxRecDepth 100000 in
set_option maxHeartbeats 0 in
theorem PySem.Challenge.cw_treewalkers_k53_whole_ties_holds : PySem.Challenge.rw_treewalkers_k53_whole_ties.Holds := by
 w_on;o_law;k_head;(case hw=>w_witness2)
 k_fill
 refine K53.walk (l:=PySem.Challenge.rw_treewalkers_k53_whole_ties) rfl rfl (λ w h Y=>PySem.W.kIn_of Y) ?F
 case F =>
  intro w mg fa h KX G hmg
  refine' K53.all_mk ⟨L2.fnT KX G ?_ ?_ ?_ ?_,L2.fnT KX G ?_ ?_ ?_ ?_,L2.fnT KX G ?_ ?_ ?_ ?_,L2.fnT KX G ?_ ?_ ?_ ?_,L2.fnT KX G ?_ ?_ ?_ ?_,L2.fnT KX G ?_ ?_ ?_ ?_,L2.fnT KX G ?_ ?_ ?_ ?_,L2.fnT KX G ?_ ?_ ?_ ?_,L2.fnT KX G ?_ ?_ ?_ ?_,L2.fnT KX G ?_ ?_ ?_ ?_,L2.fnT KX G ?_ ?_ ?_ ?_,L2.fnT KX G ?_ ?_ ?_ ?_,L2.fnT KX G ?_ ?_ ?_ ?_,L2.fnT KX G ?_ ?_ ?_ ?_,L2.fnT KX G ?_ ?_ ?_ ?_,L2.fnT KX G ?_ ?_ ?_ ?_,L2.fnT KX G ?_ ?_ ?_ ?_,L2.fnT KX G ?_ ?_ ?_ ?_,L2.fnT KX G ?_ ?_ ?_ ?_,L2.fnT KX G ?_ ?_ ?_ ?_,L2.fnT KX G ?_ ?_ ?_ ?_,L2.fnT KX G ?_ ?_ ?_ ?_,L2.fnT KX G ?_ ?_ ?_ ?_,L2.fnT KX G ?_ ?_ ?_ ?_,L2.fnT KX G ?_ ?_ ?_ ?_,L2.fnT KX G ?_ ?_ ?_ ?_,L2.fnT KX G ?_ ?_ ?_ ?_,L2.fnT KX G ?_ ?_ ?_ ?_,L2.fnT KX G ?_ ?_ ?_ ?_,L2.fnT KX G ?_ ?_ ?_ ?_,L2.fnT KX G ?_ ?_ ?_ ?_,L2.fnT KX G ?_ ?_ ?_ ?_,L2.fnT KX G ?_ ?_ ?_ ?_,L2.fnT KX G ?_ ?_ ?_ ?_,L2.fnT KX G ?_ ?_ ?_ ?_,L2.fnT KX G ?_ ?_ ?_ ?_,L2.fnT KX G ?_ ?_ ?_ ?_,L2.fnT KX G ?_ ?_ ?_ ?_,L2.fnT KX G ?_ ?_ ?_ ?_,L2.fnT KX G ?_ ?_ ?_ ?_,L2.fnT KX G ?_ ?_ ?_ ?_,L2.fnT KX G ?_ ?_ ?_ ?_,L2.fnT KX G ?_ ?_ ?_ ?_,PySem.W.mg_none_of KX G ?_,PySem.W.mg_none_of KX G ?_,PySem.W.mg_none_of KX G ?_,PySem.W.mg_none_of KX G ?_,PySem.W.mg_none_of KX G ?_,PySem.W.mg_none_of KX G ?_,PySem.W.mg_none_of KX G ?_,PySem.W.mg_none_of KX G ?_,PySem.W.mg_none_of KX G ?_,PySem.W.mg_none_of KX G ?_,PySem.W.mg_none_of KX G ?_,PySem.W.mg_none_of KX G ?_,PySem.W.mg_none_of KX G ?_,PySem.W.mg_none_of KX G ?_,PySem.W.mg_none_of KX G ?_,PySem.W.mg_none_of KX G ?_,PySem.W.mg_none_of KX G ?_,L2.ctI KX G ?_,L2.ctI KX G ?_,L2.wtT KX G ?_ ?_ ?_ ?_ ?_,L2.clT KX G ?_ ?_ ?_,⟨?_,?_,?_,?_,?_,?_,?_,?_⟩,?_,?_,L2.ckT KX G ?_ ?_,L2.ckT KX G ?_ ?_,L2.ckT KX G ?_ ?_,L2.ckT KX G ?_ ?_,L2.ckT KX G ?_ ?_,L2.ckT KX G ?_ ?_,L2.ckT KX G ?_ ?_,L2.ckT KX G ?_ ?_,L2.ckT KX G ?_ ?_,L2.ckT KX G ?_ ?_,L2.ckT KX G ?_ ?_,L2.ckT KX G ?_ ?_,L2.ckT KX G ?_ ?_,L2.ckT KX G ?_ ?_,L2.ckT KX G ?_ ?_⟩ hmg
  any_goals k_is
  all_goals (try dsimp only [L2.clT,L2.wtT])
  any_goals k_is
  any_goals rfl
  any_goals with_unfolding_all rfl
