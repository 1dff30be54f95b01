import PyProof.Rows.All
import Wide.All
import OpenK.AllK
import Wide.FinOn
import Lean
import PyProof.EqAt
import PyProof.EqKinds
import PyProof.TupleCall
import PyProof.NeKinds
import PyProof.WalkInts
import PyProof.SumWalkG
import KE.IntBitsLaws
import PyProof.FString
import PyProof.StrBlock
import KE.KxWritten
import KE.KxText
import PyProof.SliceStr2
import PyProof.TupleOfSeq
import PyProof.ReprRoads
import PyProof.ReprReads
import PyProof.ReprLen
import PyProof.Rows.TupDisplay
import PySem.Challenge.RW_treewalkers_k01_what_is_a_web
set_option Elab.async false
set_option linter.all false
set_option tactic.hygienic false
set_option maxRecDepth 100000
set_option exponentiation.threshold 10000
set_option maxHeartbeats 4000000
namespace Internal
namespace Qs
end Qs
open Option renaming some->My,none->Rl
open Bool renaming true->Rm,false->Rn
open List renaming range->Ro,replicate->Rp
open PySem.SetTable renaming below->Rq,runEnd->Rr,bits->Rt
noncomputable section
open PySem renaming wpAny_bind->ae,wpAny_pure->af,wpAny_newObj_type->bB,wpAny_callSpecial?_slot->bJ,wpAny_holding->bK,wpAny_truthy_bool->bQ,wpAny_field->bU,wpAny_call_entry->bY,wpAny_setState_of->cn,boot_len->cz,wpAny_seqItems->cB,mem_of_lookup->cN,wpAny_mono->cW,wpAny_setField_rec->cZ,wpAny_passesOwn->da,wpAny_attempt->eo,wpAny_Call_Name_kw->eD,wpAny_pyIter_list->eO,wpAny_typeOf->eR,wpAny_setField->eT,wpAny_onRaise->fk,wpAny_updateSeq_pair->ft,wpAny_execs_nil->fx,wpAny_pyIter_tuple->fE,wpAny_sequenceKey->fM,wpAny_newList->fU,wpAny_call->f6
open PySem.Heap renaming get?_push_of_some->ag,lt_size->av,get?_push_size->aE,get?_none_of_le->cA,size_push->cE,get?_update_self->c_
open List renaming length_map->ah,size_toArray->ao,mem_cons_of_mem->aw,mem_cons->ax,mem_cons_self->ay,mem_map->aA,length_append->aC,mem_range->aD,getD_eq_getElem?_getD->aF,getElem?_eq_getElem->aG,nodup_iff_pairwise_ne->aI,getElem?_map->aJ,getElem?_eq_some_iff->aL,mem_append->aM,not_mem_nil->aN,map_cons->aS,mem_append_right->aT,mem_singleton->aV,mem_of_getElem?->aY,length_singleton->aZ,lookup_cons->a_,mem_append_left->bc,length_take->bf,mem_filter->bg,pairwise_map->bp,map_map->bq,append_nil->bt,nodup_cons->bu,map_append->bD,filterMap_cons->bE,length_drop->bG,getElem?_append_right->bH,getElem?_append_left->bL,pairwise_iff_getElem->bM,all_eq_true->bN,mem_of_mem_take->bT,getElem?_eq_none->bV,getElem_of_mem->bW,length_cons->bX,getElem?_cons_succ->bZ,length_range->b_,getElem?_set_ne->cb,map_congr_left->cm,mem_of_mem_drop->cu,getElem?_set_self->cv,append_assoc->cw,replicate_succ->cF,foldl_cons->cH,drop_eq_getElem_cons->cJ,nodup_range->cM,getElem?_range->cP,length_reverse->cQ,map_id->cT,mem_filterMap->cU,find?_cons->de,length_pos_iff->dD,length_eq_zero_iff->dF,pairwise_singleton->dH,getElem_mem->dJ,pairwise_lt_range->dO,take_of_length_le->dP,length_nil->dQ,forIn_cons->dR,flatten_cons->dX,take_length->d9,getElem?_take_of_lt->eg,pairwise_cons->eF,getElem?_cons_zero->eJ,forIn_nil->eU,all_map->eV,take_succ->eX,reverse_cons->eY,length_filter_le->fb,drop_length->fe,any_eq_true->fg,any_toArray->fh,sum_cons->fo,eq_nil_of_length_eq_zero->fu,of_mem_zip->fy,zip_cons_cons->fF,nodup_nil->fH,perm_ext_iff_of_nodup->fJ,ext_getElem?->fR,mem_reverse->fZ,map_nil->f7
open Option.some renaming inj->ak
open Nat renaming le_refl->ar,lt_of_lt_of_le->aH,ne_of_lt->aP,zero_le->aQ,lt_irrefl->aW,le_trans->bA,ne_of_gt->bR,le_of_lt_succ->cy,not_lt_zero->df,lt_succ_of_lt->dq,lt_of_le_of_lt->dN,le_add_right->d4,lt_succ_self->d_,le_of_lt->eM,lt_trichotomy->eS,le_of_not_lt->fc,min_eq_right->fi,min_eq_left->fA,le_of_eq->fC,not_lt->fL,lt_of_succ_lt->fS,max_eq_right->fY,mod_lt->f9,succ_pos->f_,min_self->gf,max_eq_left->gm,le_succ->gy
open Bool renaming false_ne_true->au,false_eq_true->aR,and_eq_true->aU,not_eq_true->bw,eq_iff_iff->bC,and_true->dB,not_true->dS,and_false->fG,false_and->gq,not_false->gz
open Option renaming bind_some->aB,isSome_iff_exists->dz,getD_some->dZ,toList_some->eE,map_some->fv
open List.Nodup renaming length_le_of_subset->aK
open Classical renaming byContradiction->aX
open PyProof.Rows renaming slot_tuple_getitem->ba,callWith_type1->cR
open Array renaming getElem?_toList->bh,length_toList->bx,getD_eq_getD_getElem?->bF,getElem?_eq_some_iff->cq,getElem?_eq_none->cS
open Ne renaming symm->bj
open PySem.W renaming mg_none_of->br,mg_of->el,cellsFrom_some->eP,kia_one->gn
open PySem.PassesOwn renaming never->bP
open Int renaming toNat_natCast->bS,emod_nonneg->cg,emod_lt_of_pos->cL
open PySem.F renaming called_set->cf,slot_tuple_iterator_next->cY,plainAttrs_list->dM,args_tuple_add_2->eh,slot_list_append->eA,type_list_append->eB,entry_tuple_add->eG,slot_tuple_add->eQ,slot_zip_next->fz
open PySem.List renaming filterMap_getElem?_range_length->cC
open PySem.Heap.SameBut renaming update->cG
open PySem.Obj renaming data_mapFields->cX,isFreed_of_fields->e_,cls_mapFields->fQ
open PyProof.Rows.KeyOrd renaming kle_refl->dh,kle_of_klt->du,kle_trans->ed,kle_of_not_klt->eZ
open Function renaming comp_def->dw
open PyProof.Rows.F renaming plain_set_update_loop->dE
open List.Pairwise renaming filter->dY,imp_of_mem->eu
open PySem.Calls renaming call_function_entry->ee
open PySem.Paired renaming length->ef,snoc->fO
open PySem.SetTable renaming toList_insertAt->en
open PySem.Value renaming isInt_shape->eK
open PySem.Around renaming under_plainId->fq
open PySem.Code renaming quiet_builtin->fK
open Prod renaming ext->gu
open List.Perm renaming refl->gA
abbrev ai:=@if_pos
abbrev aq:=@if_neg
abbrev cp:=@if_false
abbrev cK:=@congrArg
abbrev dU:=@if_true
abbrev gD:=PySem.Str->Option PySem.Value
abbrev gE:=PySem.Value->PySem.Shared->Prop
abbrev gF:=Option
abbrev gG:=PySem.W.Frag
abbrev gH:=PySem.Value
abbrev gJ:=PySem.Shared
abbrev gK:=List (Nat×Nat)
abbrev gL:=List (PySem.Addr×PySem.Obj)
local macro_rules | `(tactic| trivial)=>`(tactic| first | exact .inl rfl | exact .inr rfl | exact Or.inl rfl | exact Or.inr (Or.inl rfl) | exact Or.inr (Or.inr rfl) | exact Or.inr rfl | (show List.Nodup (_::_);decide +kernel) | exact⟨rfl,rfl,rfl,by decide +kernel,rfl,by decide +kernel,by decide +kernel⟩ | assumption)
namespace L2
open PySem PySem.Spec PyProof.Rows
abbrev Key:=Sum Int Str
def xy:Key->gH->Bool
 | .inl k,v=>Value.isInt k v
 | .inr x,v=>Value.isStrOf x v
def Pg (w:World):Key->Int
 | .inl k=>hashInt k
 | .inr x=>hashStr w x
theorem jB:∀ {k:Key} {v:gH},xy k v=Rm->(∃ i t,k=Sum.inl i/\v=Value.int i t)\/(∃ x t,k=Sum.inr x/\v=Value.str x t)
 | .inl i,v,h=>by obtain⟨t,e⟩:=eK (k:=i) (v:=v) h;exact .inl ⟨i,t,rfl,e⟩
 | .inr x,v,h=>by obtain⟨t,e⟩:=Value.isStrOf_shape (x:=x) (v:=v) h;exact .inr ⟨x,t,rfl,e⟩
theorem Dn (i:Int)(t:Tok):xy (.inl i) (.int i t)=Rm:=by simp[xy,Value.isInt]
theorem Dp (x:Str)(t:Tok):xy (.inr x) (.str x t)=Rm:=by simp[xy,Value.isStrOf]
theorem KJ (a b:Int):decide ((Sum.inl a:Key)=Sum.inl b)=(a==b):=by
 by_cases e:a=b
 ·subst e;simp
 ·have h:¬ (Sum.inl a:Key)=Sum.inl b:=λ q=>e (Sum.inl.inj q);rw[decide_eq_false h];exact(beq_eq_false_iff_ne.mpr e).symm
theorem KL (a b:Str):decide ((Sum.inr a:Key)=Sum.inr b)=decide (a=b):=by
 by_cases e:a=b
 ·subst e;simp
 ·have h:¬ (Sum.inr a:Key)=Sum.inr b:=λ q=>e (Sum.inr.inj q);rw[decide_eq_false h,decide_eq_false e]
theorem KN (a:Int)(b:Str):decide ((Sum.inl a:Key)=Sum.inr b)=Rn:=decide_eq_false (λ q=>nomatch q)
theorem KO (a:Str)(b:Int):decide ((Sum.inr a:Key)=Sum.inl b)=Rn:=decide_eq_false (λ q=>nomatch q)
def jC (prog:Program)(w:World):PySem.KeyKind prog w Key where
 is:=xy
 hash:=Pg w
 inj:=λ v a b ha hb=>by
  rcases jB ha with⟨i,t,rfl,rfl⟩ | ⟨x,t,rfl,rfl⟩
  ·rcases jB hb with⟨j,u,rfl,e⟩ | ⟨y,u,rfl,e⟩
   ·injection e with e1 _;rw[e1]
   ·exact nomatch e
  ·rcases jB hb with⟨j,u,rfl,e⟩ | ⟨y,u,rfl,e⟩
   ·exact nomatch e
   ·injection e with e1 _;rw[e1]
 byValue:=λ k v h=>by
  rcases jB h with⟨i,t,rfl,rfl⟩ | ⟨x,t,rfl,rfl⟩<;>rfl
 pyHash:=λ hv h=>by
  rcases jB hv with⟨i,t,rfl,rfl⟩ | ⟨x,t,rfl,rfl⟩
  ·exact wpAny_pyHash_int h
  ·exact wpAny_pyHash_str h
 eqBool:=λ hu hv h=>by
  rcases jB hu with⟨i,t,rfl,rfl⟩ | ⟨x,t,rfl,rfl⟩
  ·rcases jB hv with⟨j,u,rfl,rfl⟩ | ⟨y,u,rfl,rfl⟩
   ·rw[KJ]at h;exact wpAny_eqBool_int h
   ·rw[KN]at h;exact SeqAt.EqAt.int_str i t y u _ _ _ _ h
  ·rcases jB hv with⟨j,u,rfl,rfl⟩ | ⟨y,u,rfl,rfl⟩
   ·rw[KO]at h;exact SeqAt.EqAt.str_int x t j u _ _ _ _ h
   ·rw[KL]at h;exact wpAny_eqBool_str h
 «strs»:=λ k x t v h=>by
  rcases jB h with⟨i,u,rfl,e⟩ | ⟨y,u,rfl,e⟩
  ·exact nomatch e
  ·injection e with e1 _
   subst e1
   cases v<;>rfl
theorem zI (prog:Program)(w:World)(i:Int)(t:Tok):(jC prog w).is (.inl i) (.int i t)=Rm:=Dn i t
theorem zJ (prog:Program)(w:World)(x:Str)(t:Tok):(jC prog w).is (.inr x) (.str x t)=Rm:=Dp x t
inductive V where
 | non | bl (b:Bool) | int (i:Int) | str (x:Str) | byt (b:Array UInt8) | flt (b:UInt64) | ref (a:Addr) | ty (n:String)
 deriving DecidableEq
def RelV:V->gH->Prop
 | .non,u=>u=Value.none
 | .bl b,u=>u=Value.bool b
 | .int i,u=>∃ t,u=Value.int i t
 | .str x,u=>∃ t,u=Value.str x t
 | .byt b,u=>∃ t,u=Value.bytes b t
 | .flt b,u=>∃ t,u=Value.float b t
 | .ref a,u=>u=Value.ref a
 | .ty n,u=>u=Value.type n
abbrev Vals:List V->List gH->Prop:=Paired RelV
theorem Vals.length {xs:List V}{us:List gH}(r:Vals xs us):xs.length=us.length:=ef r
theorem Vals.get:∀ {xs:List V} {us:List gH} {i:Nat} {x:V},Vals xs us->xs[i]?=My x->∃ u,us[i]?=My u/\RelV x u
 | _,_,_,_,.nil,e=>by simp at e
 | _,_,0,_,.cons r _,e=>by simp at e;subst e;exact⟨_,rfl,r⟩
 | _,_,i+1,x,.cons _ t,e=>by obtain⟨u,h1,h2⟩:=Vals.get (i:=i) (x:=x) t (by simpa using e);exact⟨u,by simpa using h1,h2⟩
theorem Vals.set {x:V}{u:gH}(r:RelV x u):∀ {xs:List V} {us:List gH} (i:Nat),Vals xs us->Vals (xs.set i x) (us.set i u)
 | _,_,_,.nil=>.nil
 | _,_,0,.cons _ t=>.cons r t
 | _,_,i+1,.cons q t=>.cons q (Vals.set r i t)
theorem Vals.append:∀ {xs ys:List V} {us ws:List gH},Vals xs us->Vals ys ws->Vals (xs++ys) (us++ws)
 | _,_,_,_,.nil,s=>s
 | _,_,_,_,.cons r t,s=>.cons r (Vals.append t s)
theorem Vals.take:∀ {xs:List V} {us:List gH} (n:Nat),Vals xs us->Vals (xs.take n) (us.take n)
 | _,_,0,_=>.nil
 | _,_,_+1,.nil=>.nil
 | _,_,n+1,.cons r t=>.cons r (Vals.take n t)
theorem Vals.drop:∀ {xs:List V} {us:List gH} (n:Nat),Vals xs us->Vals (xs.drop n) (us.drop n)
 | _,_,0,r=>r
 | _,_,_+1,.nil=>.nil
 | _,_,n+1,.cons _ t=>Vals.drop n t
def wX:gF V->gF gH->Prop
 | some v,My u=>RelV v u
 | none,Rl=>True
 | _,_=>False
def KV {κ:Type}:List (κ×V)->List (κ×gH)->Prop:=Paired λ(p:κ×V) (q:κ×gH)=>p.1=q.1/\RelV p.2 q.2
def kV:Key->V
 | .inl i=>.int i
 | .inr x=>.str x
inductive HO where
 | lst (xs:List V)
 | tup (xs:List V)
 | dK (kvs:List (Key×V)) | dT (kvs:List (List Key×V))
 | set (S:Int->Bool) (n:Nat)
 | ins (C dx:Addr) (fs:List (Str×V))
 | own (x:Addr)
 | xd (fs:List (Str×V))
 | met (f x:Addr)
 | rng (lo hi:Int)
 | frz (o:Obj) (u:HO)
 | tbl (ps:Array gH)
 | ext (φ:Heap->Prop)
abbrev Hp:=Addr->gF HO
def upd (H:Hp)(a:Addr)(o:HO):Hp:=λ b=>if b=a then My o else H b
theorem gW {H:Hp}{a:Addr}{o:HO}:upd H a o a=My o:=by unfold upd;rw[ai rfl]
theorem g9 {H:Hp}{a b:Addr}{o:HO}(h:b≠a):upd H a o b=H b:=by unfold upd;rw[aq h]
theorem Hu {H:Hp}{a:Addr}{o u:HO}:upd (upd H a o) a u=upd H a u:=by funext b;unfold upd;split<;>rfl
theorem JS {H:Hp}{a b:Addr}{o u:HO}(h:H a=My o)(h':H b=My u)(d:o≠u):a≠b:=by intro e;subst e;rw[h]at h';exact d (ak h')
theorem ik {H:Hp}{a b:Addr}{o:HO}(h:H a=My o)(h':H b=Rl):a≠b:=by intro e;subst e;rw[h]at h';cases h'
section
variable (P:Program)(w:World)
def jm (H:Hp)(h:Heap)(a:Addr):HO->Prop
 | .lst xs=>xs.length<=sizeLine/\∃ (its:List gH) (n:Nat),Vals xs its/\h.get? a=My {cls:=.type "list",data:=.seq its.toArray n}
 | .tup xs=>(xs.length<=sizeLine/\∃ o,h.get? a=My o/\o.dict=Rl)/\∃ its:List gH,Vals xs its/\IsTup h a its.toArray
 | .dK kvs=>kvs.length<=sizeLine/\(a==sysModules)=Rn/\∃ vs,KV kvs vs/\h.DictOf (jC P w) a vs
 | .dT kvs=>kvs.length<=sizeLine/\(a==sysModules)=Rn/\∃ xs:List (List Key×Addr×gH),
   Paired (λ(p:List Key×V) (q:List Key×Addr×gH)=>p.1=q.1/\H q.2.1=My (.tup (p.1.map kV))/\RelV p.2 q.2.2) kvs xs /\
   ∃ o es ep,h.get? a=My o/\o.ExactDict/\o.data=.dict es ep/\es.toList=xs.map (entryOfKey (tupleKind (jC P w)))/\(xs.map (·.1)).Nodup
 | .set S n=>h.SetOf (intKind P w) a S n
 | .ins C dx fs=>H dx=My (.own a)/\fs.length<=1000/\dx≠a/\h.get? a=My (PySem.W.instObj C dx) /\
   ∃ mA,h.Ns1 dx mA/\(∀ f,wX (fs.lookup f) (mA f))/\PySem.Within mA (fs.map (·.1))
 | .own _=>∃ o,h.get? a=My o
 | .xd fs=>∃ mA,h.Ns1 a mA/\∀ f,wX (fs.lookup f) (mA f)
 | .rng lo hi=>∃ t u v,h.get? a=My {cls:=.type "range",data:=.fields #[.int lo t,.int hi u,.int 1 v]}
 | .frz o u=>h.get? a=My o/\jm H h a u
 | .tbl ps=>h.get? a=My {cls:=.none,data:=.fields ps}
 | .met f x=>h.get? a=My (PySem.W.methodObj (.ref f) (.ref x))
 | .ext φ=>φ h/\(∃ o,h.get? a=My o)/\∀ h1 h2:Heap,φ h1->(∀ o,h1.get? a=My o->h2.get? a=My o)->φ h2
def HOk (H:Hp)(h:Heap):Prop:=∀ a o,H a=My o->jm P w H h a o
end
section
variable {P:Program}{w:World}{H H':Hp}{h h':Heap}{a:Addr}{o:HO}
theorem jm.lt (x:jm P w H h a o):a<h.objs.size:=by
 cases o with
 | lst xs=>obtain⟨_,_,_,_,e⟩:=x;exact av e
 | tup xs=>obtain⟨_,_,_,p⟩:=x;exact p.lt
 | dK kvs=>obtain⟨_,_,_,_,o,_,_,e,_⟩:=x;exact av e
 | dT kvs=>obtain⟨_,_,_,_,o,_,_,e,_⟩:=x;exact av e
 | set S n=>obtain⟨o,_,_,_,e,_⟩:=x;exact av e
 | ins C dx fs=>obtain⟨_,_,_,e,_⟩:=x;exact av e
 | own y=>obtain⟨_,e⟩:=x;exact av e
 | xd fs=>obtain⟨_,⟨_,_,_,e,_⟩,_⟩:=x;exact av e
 | rng lo hi=>obtain⟨_,_,_,e⟩:=x;exact av e
 | frz ob u=>obtain⟨e,_⟩:=x;exact av e
 | tbl ps=>exact av (show h.get? a=My _ from x)
 | met f y=>exact av (show h.get? a=My _ from x)
 | ext φ=>obtain⟨_,⟨_,e⟩,_⟩:=x;exact av e
theorem Paired.Hv {α β:Type}{F G:α->β->Prop}:∀ {l₁:List α} {l₂:List β},Paired F l₁ l₂->(∀ a b,F a b->G a b)->Paired G l₁ l₂
 | _,_,.nil,_=>.nil
 | _,_,.cons r t,f=>.cons (f _ _ r) (Paired.Hv t f)
theorem Paired.imp' {α β:Type}{F G:α->β->Prop}(f:∀ a b,F a b->G a b){l₁:List α}{l₂:List β}(r:Paired F l₁ l₂):Paired G l₁ l₂:=Paired.Hv r f
theorem jm.u4 (x:jm P w H h a o)(k:∀ b u,(b=a\/H b=My (.own a))->h.get? b=My u->h'.get? b=My u)
  (ho:∀ b,H b=My (.own a)->H' b=My (.own a)) (ht:∀ b xs,H b=My (.tup xs)->H' b=My (.tup xs)):jm P w H' h' a o:=by
 induction o with
 | lst xs=>obtain⟨z,its,n,r,e⟩:=x;exact⟨z,its,n,r,k _ _ (.inl rfl) e⟩
 | tup xs=>obtain⟨⟨z,o2,e2,d2⟩,its,r,ob,e,c⟩:=x;exact⟨⟨z,o2,k _ _ (.inl rfl) e2,d2⟩,its,r,ob,k _ _ (.inl rfl) e,c⟩
 | dK kvs=>obtain⟨z,y,vs,r,ob,es,ep,e,c⟩:=x;exact⟨z,y,vs,r,ob,es,ep,k _ _ (.inl rfl) e,c⟩
 | dT kvs =>obtain⟨z,y,xs,r,ob,es,ep,e,c⟩:=x;exact⟨z,y,xs,Paired.Hv r λ p q z=>⟨z.1,ht _ _ z.2.1,z.2.2⟩,ob,es,ep,k _ _ (.inl rfl) e,c⟩
 | set S n=>obtain⟨ob,es,ep,t,e,c⟩:=x;exact⟨ob,es,ep,t,k _ _ (.inl rfl) e,c⟩
 | ins C dx fs =>obtain⟨d,z,ne,e,mA,⟨od,es,ep,e2,c⟩,r⟩:=x;exact⟨ho _ d,z,ne,k _ _ (.inl rfl) e,mA,⟨od,es,ep,k _ _ (.inr d) e2,c⟩,r⟩
 | own y=>obtain⟨ob,e⟩:=x;exact⟨ob,k _ _ (.inl rfl) e⟩
 | xd fs=>obtain⟨mA,⟨od,es,ep,e,c⟩,r⟩:=x;exact⟨mA,⟨od,es,ep,k _ _ (.inl rfl) e,c⟩,r⟩
 | rng lo hi=>obtain⟨t,u,v,e⟩:=x;exact⟨t,u,v,k _ _ (.inl rfl) e⟩
 | frz ob u ih=>obtain⟨e,q⟩:=x;exact⟨k _ _ (.inl rfl) e,ih q⟩
 | tbl ps =>have e:h.get? a=My {cls:=.none,data:=.fields ps}:=x;show h'.get? a=My {cls:=.none,data:=.fields ps};exact k a _ (.inl rfl) e
 | met f y =>have e:h.get? a=My (PySem.W.methodObj (.ref f) (.ref y)):=x;show h'.get? a=My (PySem.W.methodObj (.ref f) (.ref y));exact k a _ (.inl rfl) e
 | ext φ=>obtain⟨p,⟨o,e⟩,st⟩:=x;exact⟨st _ _ p λ o q=>k _ _ (.inl rfl) q,⟨o,k _ _ (.inl rfl) e⟩,st⟩
theorem HOk.lt (x:HOk P w H h)(e:H a=My o):a<h.objs.size:=(x a o e).lt
theorem HOk.fresh (x:HOk P w H h)(e:h.objs.size<=a):H a=Rl:=by
 cases q:H a with
 | none=>rfl
 | some u=>exact absurd (aH (x.lt q) e) (aW _)
theorem HOk.kept (x:HOk P w H h)(k:∀ b u,h.get? b=My u->h'.get? b=My u):HOk P w H h':=λ a o e =>(x a o e).u4 (λ b u _ q=>k b u q) (λ _ q=>q) λ _ _ q=>q
theorem HOk.laid (x:HOk P w H h)(k:∀ b u,h.get? b=My u->h'.get? b=My u)(hp:h.objs.size<=a)(new:jm P w (upd H a o) h' a o):HOk P w (upd H a o) h':=λ b u e=>by
 have hn:=x.fresh hp;by_cases hb:b=a
 ·subst hb;rw[gW]at e;cases e;exact new
 ·rw[g9 hb]at e;exact(x b u e).u4 (λ c v _ q=>k c v q) (λ c q=>by rw[g9 (ik q hn)];exact q) λ c xs q=>by rw[g9 (ik q hn)];exact q
end
def Rd (H:Hp)(a:Addr)(u:HO):Prop:=H a=My u\/∃ o,H a=My (.frz o u)
theorem Rd.ok {P:Program}{w:World}{H:Hp}{h:Heap}{a:Addr}{u:HO}(r:Rd H a u)(x:HOk P w H h):jm P w H h a u:=by
 rcases r with r | ⟨o,r⟩
 ·exact x a u r
 ·obtain⟨_,q⟩:=x a _ r;exact q
def Mut:gF HO->Prop
 | some (.lst _)=>True
 | some (.dK _)=>True
 | some (.dT _)=>True
 | some (.set _ _)=>True
 | some (.ins _ _ _)=>True
 | some (.ext _)=>True
 | _=>False
section
variable {P:Program}{w:World}{H:Hp}{h h':Heap}{x e:Addr}{o':HO}
theorem HOk.write (ok:HOk P w H h)(mu:Mut (H x))(he:e=x\/H e=My (.own x))(k:∀ b u,b≠e->h.get? b=My u->h'.get? b=My u)(heo:∃ u,h'.get? e=My u)
  (new:jm P w (upd H x o') h' x o'):HOk P w (upd H x o') h':=λ b u q=>by
 have nown:∀ c y,H c=My (.own y)->c≠x:=λ c y r z=>by subst z;rw[r]at mu;exact mu
 have ntup:∀ c xs,H c=My (.tup xs)->c≠x:=λ c xs r z=>by subst z;rw[r]at mu;exact mu
 by_cases hb:b=x
 ·subst hb;rw[gW]at q;cases q;exact new
 ·rw[g9 hb]at q
  by_cases hbe:b=e
  ·have q':H b=My (.own x):=by
    rcases he with z | z
    ·exact absurd (hbe.trans z) hb
    ·rw[hbe];exact z
   rw[q]at q';cases q';obtain⟨v,hv⟩:=heo;exact⟨v,by rw[hbe];exact hv⟩
  ·refine(ok b u q).u4 (λ c v hc r=>k c v ?_ r) (λ c r=>by rw[g9 (nown c b r)];exact r) λ c xs r=>by rw[g9 (ntup c xs r)];exact r
   rcases hc with rfl | hc
   ·exact hbe
   ·rintro rfl
    rcases he with z | z
    ·exact nown c b hc z
    ·rw[hc]at z;cases z;exact hb rfl
end
structure Un (fs ex:List Addr)(H H':Hp)(h h':Heap):Prop where
 keep:∀ b o,h.get? b=My o->H b=Rl->b∉fs->b∉ex->h'.get? b=My o
 slot:∀ b o,h.get? b=My o->H b=Rl->b∈fs->b∉ex->∃ sl,h'.get? b=My {o with slots:=sl}
 free:∀ b o,h.get? b=My o->H b=Rl->b∉ex->H' b=Rl
 there:∀ b o,h.get? b=My o->b∉ex->∃ o',h'.get? b=My o'
 o_:∀ b xs,H b=My (.tup xs)->H' b=My (.tup xs)
 pf:∀ b o u,H b=My (.frz o u)->H' b=My (.frz o u)
 sU:∀ b ps,H b=My (.tbl ps)->∃ more,H' b=My (.tbl (ps++more))
section
variable {fs fs' ex ex':List Addr}{H H1 H2:Hp}{h h1 h2 h':Heap}{a x e:Addr}{o:HO}
theorem Un.any (u:Un fs ex H H1 h h1){b:Addr}{ob:Obj}(q:h.get? b=My ob)(n:H b=Rl)(hx:b∉ex):∃ sl,h1.get? b=My {ob with slots:=sl}:=by
 by_cases hb:b∈fs
 ·exact u.slot b ob q n hb hx
 ·exact⟨ob.slots,u.keep b ob q n hb hx⟩
theorem Un.kept (k:∀ b u,h.get? b=My u->h'.get? b=My u):Un fs ex H H h h' :=
 ⟨λ b ob q _ _ _=>k b ob q,λ b ob q _ _ _=>⟨ob.slots,k b ob q⟩,λ _ _ _ n _=>n,λ b ob q _=>⟨ob,k b ob q⟩,λ _ _ q=>q,λ _ _ _ q=>q,λ _ ps q=>⟨#[],by rw[q];simp⟩⟩
theorem Un.refl:Un fs ex H H h h:=Un.kept λ _ _ q=>q
theorem Un.laid (k:∀ b u,h.get? b=My u->h'.get? b=My u)(hp:h.objs.size<=a)(hn:H a=Rl):Un fs ex H (upd H a o) h h' where
 keep:=λ b u q _ _ _=>k b u q
 slot:=λ b u q _ _ _=>⟨u.slots,k b u q⟩
 free:=λ b u q n _=>by rw[g9 (aP (aH (av q) hp))];exact n
 there:=λ b u q _=>⟨u,k b u q⟩
 o_:=λ b xs q=>by rw[g9 (ik q hn)];exact q
 pf:=λ b u xs q=>by rw[g9 (ik q hn)];exact q
 sU:=λ b ps q=>⟨#[],by rw[g9 (ik q hn),q];simp⟩
theorem Un.write (mu:Mut (H x))(he:e=x\/H e=My (.own x))(k:∀ b u,b≠e->h.get? b=My u->h'.get? b=My u)(heo:∃ u,h'.get? e=My u):Un fs ex H (upd H x o) h h':=by
 have hx:∀ b,H b=Rl->b≠x:=λ b n z=>by subst z;rw[n]at mu;exact mu
 have hb:∀ b,H b=Rl->b≠e:=λ b n z=>by
  subst z;rcases he with r | r
  ·exact hx b n r
  ·rw[n]at r;cases r
 have hm:∀ b u,H b=My u->¬ Mut (My u)->b≠x:=λ b u q nm z=>by subst z;rw[q]at mu;exact nm mu
 refine⟨λ b u q n _ _=>k b u (hb b n) q,λ b u q n _ _=>⟨u.slots,k b u (hb b n) q⟩,λ b u q n _=>by rw[g9 (hx b n)];exact n,λ b u q _=>?_,
  λ b xs q=>by rw[g9 (hm b _ q λ z=>z)];exact q,λ b u xs q=>by rw[g9 (hm b _ q λ z=>z)];exact q,λ b ps q=>⟨#[],by rw[g9 (hm b _ q λ z=>z),q];simp⟩⟩
 by_cases hbe:b=e
 ·subst hbe;exact heo
 ·exact⟨u,k b u hbe q⟩
end
def trk (h:Heap)(H:Hp):List Addr:=(Ro h.objs.size).filter λ a=>(H a).isSome
def yo (h:Heap)(H:Hp):Heap:=PySem.W.hideAll h (trk h H)
theorem Dq (h:Heap)(H:Hp):(yo h H).objs.size=h.objs.size:=PySem.W.hideAll_size _ _
theorem Ew {h:Heap}{H:Hp}{b:Addr}{o:Obj}(e:h.get? b=My o)(n:H b=Rl):(yo h H).get? b=My o :=
 PySem.W.hideAll_get _ e λ hm=>by have q:(H b).isSome=Rm:=(bg.mp hm).2;rw[n]at q;simp at q
theorem Hw {h:Heap}{H:Hp}{b:Addr}{o:Obj}(e:(yo h H).get? b=My o):h.get? b=My o/\H b=Rl:=by
 have e':h.get? b=My o:=PySem.W.of_hideAll (trk h H) e;refine⟨e',?_⟩;cases q:H b with
 | none=>rfl
 | some x =>have hm:b∈trk h H:=bg.mpr ⟨aD.mpr (av e'),by simp[q]⟩;have z:(yo h H).get? b=Rl:=PySem.W.hideAll_none (trk h H) hm;rw[z]at e;cases e
def kU (g h:Heap)(L:Addr):gL:=(Ro h.objs.size).filterMap λ a=>if a=L\/(g.get? a).isSome=Rm then Rl else (h.get? a).map λ o=>(a,o)
theorem zK {g h:Heap}{L a:Addr}{o:Obj}(h1:a≠L)(h2:g.get? a=Rl)(h3:h.get? a=My o):(a,o)∈kU g h L :=
 cU.mpr ⟨a,aD.mpr (av h3),by simp[h1,h2,h3]⟩
set_option tactic.hygienic true in
theorem jG {g h:Heap}{L:Addr}{p:Addr×Obj}(hp:p∈kU g h L):p.1≠L/\g.get? p.1=Rl/\h.get? p.1=My p.2:=by
 obtain⟨b,_,e⟩:=cU.mp hp;split at e
 ·cases e
 ·rename_i hn
  cases q:h.get? b with
  | none=>rw[q]at e;simp at e
  | some u =>
   rw[q]at e;simp only[fv,Option.some.injEq]at e;subst e;refine⟨λ z=>hn (.inl z),?_,q⟩;show g.get? b=Rl;cases r:g.get? b with
   | none=>rfl
   | some v=>exact(hn (.inr (by simp[r]))).elim
structure Mod (K:gG)(mg:gD)(base:Heap):Prop where
 kin:K.In base
 glob:base.Ns mainGlobals mg
 blt:∃ mb,base.Ns builtinsNs mb/\∀ x:Str,x≠"__name__"->mb x=bootBuiltins x
 nolimit:base.NoLimit
set_option genInjectivity false in
set_option genSizeOf false in
structure Cx where
 prog:Program
 w:World
 K:gG
 mg:Str->gF gH
 base:Heap
 A:Around
 N:List Str
 s₀:gJ
 H₀:Hp
 env:Env
 outer:List Env
 stack:List Env
 ex:List Addr
 fn:Str->Bool
 calm:Bool
 pn:gL
 xe:gH->gJ->Prop
def frs (l:List Env):List Addr:=l.filterMap (·.frame)
abbrev Cx.fs (X:Cx):List Addr:=frs X.outer
def Vis (sc:Scope)(x:Str):Prop:=sc.names.lookup x=My .local\/sc.names.lookup x=My .cell\/sc.names.lookup x=My .free
def Loc (sc:Scope)(x:Str):Prop:=sc.names.lookup x=My .local\/sc.names.lookup x=My .cell
def Look (env:Env)(h:Heap)(m:gD)(x:Str)(u:gH):Prop :=
 (env.kindOf x=My .local/\m x=My u)\/((env.kindOf x=My .cell\/env.kindOf x=My .free)/\∃ c,env.cells.lookup x=My c/\h.IsCell c (My u))
structure Cx.Ok (X:Cx):Prop where
 mod:Mod X.K X.mg X.base
 kind:X.env.scope.kind=.function
 glob:X.env.globals=mainGlobals
 blt:X.env.builtins=builtinsNs
 above:X.s₀.heap.objs.size<=X.env.locals
 inj:∀ x y c,X.env.cells.lookup x=My c->X.env.cells.lookup y=My c->x=y
 has:∀ x,(X.env.kindOf x=My .cell\/X.env.kindOf x=My .free)->∃ c,X.env.cells.lookup x=My c
 cab:∀ x c,X.fn x=Rm->X.env.cells.lookup x=My c->X.s₀.heap.objs.size<=c
 hd:X.calm=Rm->X.A.handled=Rl
 frames:X.A.frames=My X.stack
 stk:X.stack=X.outer\/(X.stack=X.env::X.outer/\X.env.frame=My X.env.locals)
 exf:∀ b∈X.ex,b≠X.env.locals/\∀ x c,X.env.cells.lookup x=My c->c≠b
 bs:∀ b o,X.base.get? b=My o->X.s₀.heap.get? b=My o/\X.H₀ b=Rl
 bsz:X.base.objs.size<=X.s₀.heap.objs.size
 Bd:∀ b o,X.base.get? b=My o->b∉X.ex
 Ex:∀ b∈X.ex,b∉X.fs
 sV:X.s₀.heap.FunFrames X.base X.outer
 frf:∀ b∈X.fs,X.H₀ b=Rl
structure Inv (X:Cx)(pins:gL)(σ:List (gF V))(H:Hp)(s:gJ):Prop where
 ok:X.Ok
 os:s.os=X.s₀.os
 bare:AllBare s.gens
 base:Un X.fs X.ex X.H₀ H X.s₀.heap s.heap
 loc:∃ m,s.heap.Ns X.env.locals m/\∀ (i:Nat) (x:Str) (v:V),X.N[i]?=My x->σ[i]?=My (My v)->Vis X.env.scope x->∃ u,RelV v u/\Look X.env s.heap m x u
 cell:∀ x c,X.env.cells.lookup x=My c->∃ v,s.heap.IsCell c v
 free:H X.env.locals=Rl
 lW:∀ x c,X.env.cells.lookup x=My c->H c=Rl
 pin:∀ p∈X.pn++pins,s.heap.get? p.1=My p.2/\H p.1=Rl/\p.1≠X.env.locals/\p.1∉X.fs/\∀ v,p.2.data≠.cell v
 hok:HOk X.prog X.w H s.heap
 len:σ.length=X.N.length
section
variable {X:Cx}{pins:gL}{σ:List (gF V)}{H H':Hp}{s:gJ}{h':Heap}
theorem Cx.Ok.Ph (ok:X.Ok){b:Addr}{o:Obj}(e:X.base.get? b=My o):b∉X.fs:=λ hb=>by have:=(ok.sV.mem hb).1;rw[e]at this;cases this
theorem Inv.bs (I:Inv X pins σ H s):∀ b o,X.base.get? b=My o->s.heap.get? b=My o/\H b=Rl:=λ b o e =>⟨I.base.keep b o (I.ok.bs b o e).1 (I.ok.bs b o e).2 (I.ok.Ph e) (I.ok.Bd b o e),I.base.free b o (I.ok.bs b o e).1 (I.ok.bs b o e).2 (I.ok.Bd b o e)⟩
theorem Inv.bk (I:Inv X pins σ H s):∀ b o,X.base.get? b=My o->s.heap.get? b=My o:=λ b o e=>(I.bs b o e).1
theorem Inv.mod (I:Inv X pins σ H s):Mod X.K X.mg X.base:=I.ok.mod
theorem Inv.kIn (I:Inv X pins σ H s):X.K.In s.heap:=I.ok.mod.kin.keeps I.bk
theorem Inv.fr (I:Inv X pins σ H s):∃ m,Fr X.base X.env.locals s.heap m :=
 let ⟨m,hn,_⟩:=I.loc
 ⟨m,hn,I.bk,bA I.ok.bsz I.ok.above⟩
theorem Inv.lt (I:Inv X pins σ H s):X.env.locals<s.heap.objs.size:=let ⟨_,hn,_⟩:=I.loc;hn.lt
theorem Inv.sz (I:Inv X pins σ H s):X.s₀.heap.objs.size<=s.heap.objs.size:=bA I.ok.above (eM I.lt)
theorem Inv.Pj (I:Inv X pins σ H s){a:Addr}(h:s.heap.objs.size<=a):a∉X.fs:=λ hb=>by obtain⟨_,o,ho,_⟩:=I.ok.sV.mem hb;exact absurd (aH (av ho) (bA I.sz h)) (aW _)
theorem Inv.cne (I:Inv X pins σ H s):∀ x c,X.env.cells.lookup x=My c->c≠X.env.locals:=λ x c e z=>by obtain⟨v,o,ho,hd⟩:=I.cell x c e;obtain⟨m,⟨o',es,ep,ho',hd',_⟩,_⟩:=I.loc;rw[z,ho']at ho;cases ho;rw[hd']at hd;cases hd
theorem Inv.sV (I:Inv X pins σ H s):s.heap.FunFrames X.base X.outer:=by
 have all:∀ (l:List Env),(∀ b∈frs l,b∈X.fs)->X.s₀.heap.FunFrames X.base l->s.heap.FunFrames X.base l:=by
  intro l;induction l with
  | nil=>intro _ _;trivial
  | cons env r ih =>intro hs hl;obtain⟨hk,⟨L,o,hf,hn,ho,hd⟩,hr⟩:=hl;have hL:L∈X.fs:=hs L (by unfold frs;rw[bE,hf];exact ay);obtain⟨sl,e⟩:=I.base.slot L o ho (I.ok.frf L hL) hL λ z=>I.ok.Ex L z hL;exact⟨hk,⟨L,_,hf,hn,e,hd⟩,ih (λ b hb=>hs b (by unfold frs;rw[bE,hf];exact aw _ hb)) hr⟩
 exact all X.outer (λ _ hb=>hb) I.ok.sV
theorem Inv.stack (I:Inv X pins σ H s):s.heap.FunFrames X.base X.stack:=by
 rcases I.ok.stk with e | ⟨e,hf⟩
 ·rw[e];exact I.sV
 ·rw[e];obtain⟨m,hn,_⟩:=I.loc;refine .cons (by rw[I.ok.kind];decide) hf hn ?_ I.sV;exact cA (bA I.ok.bsz I.ok.above)
theorem Inv.u6 (I:Inv X pins σ H s):∀ b∈frs X.stack,b∈X.env.locals::X.fs:=λ b hb=>by
 rcases I.ok.stk with e | ⟨e,hf⟩
 ·rw[e]at hb;exact aw _ hb
 ·rw[e]at hb;unfold frs at hb;rw[bE,hf]at hb;exact hb
theorem Inv.rh (I:Inv X pins σ H s):∀ b∈frs X.stack,H b=Rl:=λ b hb=>by
 rcases ax.mp (I.u6 b hb) with e | hb
 ·rw[e];exact I.free
 ·obtain⟨_,o,ho,_⟩:=I.ok.sV.mem hb;exact I.base.free b o ho (I.ok.frf b hb) λ z=>I.ok.Ex b z hb
theorem Inv.step {g':Array GenState}{t':Nat}{d':Drawn}{ch:List Addr}(I:Inv X pins σ H s)
  (hch:∀ b∈ch,(b∈X.ex\/X.s₀.heap.objs.size<=b)/\b≠X.env.locals/\(∀ x c,X.env.cells.lookup x=My c->c≠b)/\∀ p∈X.pn++pins,p.1≠b)
  (keep:∀ b o,b≠X.env.locals->b∉X.fs->b∉ch->s.heap.get? b=My o->H b=Rl->h'.get? b=My o)
  (slot:∀ b o,b≠X.env.locals->b∈X.fs->b∉ch->s.heap.get? b=My o->H b=Rl->∃ sl,h'.get? b=My {o with slots:=sl}) (free:∀ b o,b∉ch->s.heap.get? b=My o->H b=Rl->H' b=Rl)
  (there:∀ b o,b∉ch->s.heap.get? b=My o->∃ o',h'.get? b=My o')
  (o_:∀ b xs,H b=My (.tup xs)->H' b=My (.tup xs)) (pf:∀ b o u,H b=My (.frz o u)->H' b=My (.frz o u)) (sU:∀ b ps,H b=My (.tbl ps)->∃ more,H' b=My (.tbl (ps++more)))
  (ns:∀ m,s.heap.Ns X.env.locals m->h'.Ns X.env.locals m) (hok:HOk X.prog X.w H' h') (hg:AllBare g') :
  Inv X pins σ H' {s with heap:=h',gens:=g',drawn:=d',toks:=t'}:=by
 have neL:∀ b o,X.s₀.heap.get? b=My o->b≠X.env.locals:=λ b o e=>aP (aH (av e) I.ok.above);have neC:∀ b o,X.s₀.heap.get? b=My o->b∉X.ex->b∉ch:=λ b o e hx hb=>by
  rcases (hch b hb).1 with z | z
  ·exact hx z
  ·exact absurd (aH (av e) z) (aW _)
 have cellK:∀ x c,X.env.cells.lookup x=My c->∀ v,s.heap.IsCell c v->h'.IsCell c v:=λ x c e v ⟨o,ho,hd⟩=>by
  have nch:c∉ch:=λ z=>(hch c z).2.2.1 x c e rfl;by_cases hc:c∈X.fs
  ·obtain⟨sl,q⟩:=slot c o (I.cne x c e) hc nch ho (I.lW x c e);exact⟨_,q,hd⟩
  ·exact⟨o,keep c o (I.cne x c e) hc nch ho (I.lW x c e),hd⟩
 refine⟨I.ok,I.os,hg,⟨λ b o e n hb hx=>?_,λ b o e n hb hx=>?_,λ b o e n hx=>?_,λ b o e hx=>?_,λ b xs e=>o_ b xs (I.base.o_ b xs e),λ b o xs e=>pf b o xs (I.base.pf b o xs e),λ b ps e=>?_⟩,?_,λ x c e=>?_,?_,λ x c e=>?_,λ p hp=>?_,hok,I.len⟩
 ·exact keep b o (neL b o e) hb (neC b o e hx) (I.base.keep b o e n hb hx) (I.base.free b o e n hx)
 ·obtain⟨sl,e1⟩:=I.base.slot b o e n hb hx;obtain⟨sl',e2⟩:=slot b _ (neL b o e) hb (neC b o e hx) e1 (I.base.free b o e n hx);exact⟨sl',e2⟩
 ·obtain⟨o',e1⟩:=I.base.there b o e hx;exact free b o' (neC b o e hx) e1 (I.base.free b o e n hx)
 ·obtain⟨o',e1⟩:=I.base.there b o e hx;exact there b o' (neC b o e hx) e1
 ·obtain⟨m1,e1⟩:=I.base.sU b ps e;obtain⟨m2,e2⟩:=sU b _ e1;exact⟨m1++m2,by rw[e2,Array.append_assoc]⟩
 ·obtain⟨m,hn,hl⟩:=I.loc
  refine⟨m,ns m hn,λ i x v e1 e2 e3=>?_⟩;obtain⟨u,r,l⟩:=hl i x v e1 e2 e3;refine⟨u,r,?_⟩;rcases l with l | ⟨k,c,e,z⟩
  ·exact .inl l
  ·exact .inr ⟨k,c,e,cellK x c e _ z⟩
 ·obtain⟨v,z⟩:=I.cell x c e;exact⟨v,cellK x c e v z⟩
 ·obtain⟨m,⟨o,_,_,ho,_⟩,_⟩:=I.loc;exact free _ o (λ z=>(hch _ z).2.1 rfl) ho I.free
 ·obtain⟨v,o,ho,hd⟩:=I.cell x c e;exact free c o (λ z=>(hch c z).2.2.1 x c e rfl) ho (I.lW x c e)
 ·obtain⟨e,n,ne,nf,d⟩:=I.pin p hp;have nch:p.1∉ch:=λ z=>(hch p.1 z).2.2.2 p hp rfl;exact⟨keep p.1 p.2 ne nf nch e n,free p.1 p.2 nch e n,ne,nf,d⟩
theorem Inv.un {t':Nat}(I:Inv X pins σ H s)(u:Un X.fs [] H H' s.heap h')(hok:HOk X.prog X.w H' h'):Inv X pins σ H' {s with heap:=h',toks:=t'}:=by obtain⟨m,⟨o,es,ep,ho,r⟩,_⟩:=id I.loc;obtain⟨sl,hL⟩:=u.any ho I.free (by simp);exact I.step (g':=s.gens) (d':=s.drawn) (ch:=[]) (λ _ z=>nomatch z) (λ b o _ hb _ e n=>u.keep b o e n hb (by simp)) (λ b o _ hb _ e n=>u.slot b o e n hb (by simp)) (λ b o _ e n=>u.free b o e n (by simp)) (λ b o _ e=>u.there b o e (by simp)) u.o_ u.pf u.sU (λ m' hm=>by obtain⟨o',es',ep',ho',r'⟩:=hm;rw[ho]at ho';cases ho';exact⟨_,es',ep',hL,r'⟩) hok I.bare
theorem Inv.call {g':Array GenState}{t':Nat}{d':Drawn}{ch:List Addr}(I:Inv X pins σ H s)(u:Un (frs X.stack) ch H H' s.heap h')(hok:HOk X.prog X.w H' h')(hg:AllBare g')
  (hch:∀ b∈ch,(b∈X.ex\/X.s₀.heap.objs.size<=b)/\b≠X.env.locals/\(∀ x c,X.env.cells.lookup x=My c->c≠b)/\∀ p∈X.pn++pins,p.1≠b) :
  Inv X pins σ H' {s with heap:=h',gens:=g',drawn:=d',toks:=t'}:=by
 obtain⟨m,⟨o,es,ep,ho,r⟩,_⟩:=id I.loc;obtain⟨sl,hL⟩:=u.any ho I.free λ z=>(hch _ z).2.1 rfl;exact I.step (ch:=ch) hch (λ b o hL hb hc e n=>u.keep b o e n (λ z=>(ax.mp (I.u6 b z)).elim hL hb) hc) (λ b o _ _ hc e n=>u.any e n hc) (λ b o hc e n=>u.free b o e n hc) (λ b o hc e=>u.there b o e hc) u.o_ u.pf u.sU (λ m' hm=>by obtain⟨o',es',ep',ho',r'⟩:=hm;rw[ho]at ho';cases ho';exact⟨_,es',ep',hL,r'⟩) hok hg
theorem Inv.turned {t':Nat}{it:Addr}(I:Inv X pins σ H s)(k:∀ b o,b≠it->s.heap.get? b=My o->h'.get? b=My o)(hn:H it=Rl)(hL:it≠X.env.locals)
  (h1:it∈X.ex\/X.s₀.heap.objs.size<=it) (h2:∀ x c,X.env.cells.lookup x=My c->c≠it) (h3:∀ p∈X.pn++pins,p.1≠it):Inv X pins σ H {s with heap:=h',toks:=t'}:=by
 have nit:∀ b u,H b=My u->b≠it:=λ b u e z=>by rw[z,hn]at e;cases e
 refine I.step (g':=s.gens) (d':=s.drawn) (ch:=[it]) (λ b hb=>?_) (λ b o _ _ hc e _=>k b o (λ z=>hc (by simp[z])) e) (λ b o _ _ hc e _=>⟨o.slots,k b o (λ z=>hc (by simp[z])) e⟩) (λ _ _ _ _ n=>n)
  (λ b o hc e=>⟨o,k b o (λ z=>hc (by simp[z])) e⟩) (λ _ _ e=>e) (λ _ _ _ e=>e) (λ b ps e=>⟨#[],by rw[e];simp⟩) (λ m hm=>?_) (λ b u e=>?_) I.bare
 ·have e:b=it:=by simpa using hb
  subst e;exact⟨h1,hL,h2,h3⟩
 ·obtain⟨o,es,ep,ho,r⟩:=hm;exact⟨o,es,ep,k _ o (bj hL) ho,r⟩
 ·refine(I.hok b u e).u4 (λ c v hc q=>k c v ?_ q) (λ _ q=>q) λ _ _ q=>q
  rcases hc with z | z
  ·rw[z];exact nit b u e
  ·exact nit c _ z
theorem Inv.tok (I:Inv X pins σ H s)(t:Nat):Inv X pins σ H {s with toks:=t}:=I.un (h':=s.heap) (t':=t) Un.refl I.hok
theorem Inv.kept {t':Nat}(I:Inv X pins σ H s)(k:∀ b u,s.heap.get? b=My u->h'.get? b=My u):Inv X pins σ H {s with heap:=h',toks:=t'}:=I.un (Un.kept k) (I.hok.kept k)
theorem Inv.laid {a:Addr}{o:HO}{t':Nat}(I:Inv X pins σ H s)(k:∀ b u,s.heap.get? b=My u->h'.get? b=My u)(hp:s.heap.objs.size<=a)(new:jm X.prog X.w (upd H a o) h' a o) :
  Inv X pins σ (upd H a o) {s with heap:=h',toks:=t'}:=I.un (Un.laid k hp (I.hok.fresh hp)) (I.hok.laid k hp new)
theorem Inv.write {x e:Addr}{o:HO}{t':Nat}(I:Inv X pins σ H s)(mu:Mut (H x))(he:e=x\/H e=My (.own x))(k:∀ b u,b≠e->s.heap.get? b=My u->h'.get? b=My u)(heo:∃ u,h'.get? e=My u)
  (new:jm X.prog X.w (upd H x o) h' x o):Inv X pins σ (upd H x o) {s with heap:=h',toks:=t'}:=I.un (Un.write mu he k heo) (I.hok.write mu he k heo new)
theorem Inv.weak {σ':List (gF V)}(I:Inv X pins σ H s)(hl:σ'.length=σ.length)(w:∀ (i:Nat) v,σ'[i]?=My (My v)->σ[i]?=My (My v)):Inv X pins σ' H s :=
 ⟨I.ok,I.os,I.bare,I.base,let ⟨m,hn,hl'⟩:=I.loc;⟨m,hn,λ i x v e1 e2 e3=>hl' i x v e1 (w i v e2) e3⟩,I.cell,I.free,I.lW,I.pin,I.hok,hl.trans I.len⟩
theorem Inv.uJ {pins':gL}(I:Inv X pins σ H s)(h:∀ p∈pins',s.heap.get? p.1=My p.2/\H p.1=Rl/\p.1≠X.env.locals/\p.1∉X.fs/\∀ v,p.2.data≠.cell v):Inv X pins' σ H s :=
 ⟨I.ok,I.os,I.bare,I.base,I.loc,I.cell,I.free,I.lW,λ p hp=>(aM.mp hp).elim (λ z=>I.pin p (bc _ z)) (h p),I.hok,I.len⟩
theorem u9 {N:List Str}(hN:N.Nodup){i j:Nat}{x:Str}(a:N[i]?=My x)(b:N[j]?=My x):i=j:=by obtain⟨h1,e1⟩:=aL.mp a;obtain⟨h2,e2⟩:=aL.mp b;exact(List.getElem_inj hN).mp (e1.trans e2.symm)
theorem xA {M:Model}{A:Around}{E:gE}{i:Nat}{x:Str}{v:V}{u:gH}{Q:Unit->gJ->Prop}(I:Inv X pins σ H s)(hN:X.N.Nodup)(hi:X.N[i]?=My x)(hx:Loc X.env.scope x)(r:RelV v u)
  (h:∀ s',Inv X pins (σ.set i (My v)) H s'->(∃ a,Heap.SameBut a s.heap s'.heap/\(a=X.env.locals\/X.env.cells.lookup x=My a))->Q () s') (hf:X.fn x=Rm\/X.env.scope.names.lookup x=My .local):wpAny M A (storeName X.env x u) Q E s:=by
 obtain⟨m,hn,hl⟩:=id I.loc;have hcls:(X.env.scope.kind==.class || (X.env.scope.kind==.module&&X.env.locals != X.env.globals))=Rn:=by rw[I.ok.kind];rfl
 have hiσ:i<σ.length:=by rw[I.len];exact(aL.mp hi).1
 have cne:=I.cne;have tracked:∀ {a:Addr} {h':Heap},(∃ o,s.heap.get? a=My o/\H a=Rl)->Heap.SameBut a s.heap h'->HOk X.prog X.w H h':=λ{a h'} ha hs b ob e=>by
  obtain⟨_,_,hfree⟩:=ha;refine(I.hok b ob e).u4 (λ c w' hc q=>(hs.2 c ?_).trans q) (λ _ q=>q) λ _ _ q=>q;rintro rfl;rcases hc with rfl | hc
  ·rw[hfree]at e;cases e
  ·rw[hfree]at hc;cases hc
 rcases hx with hk | hk
 ·refine wpAny_storeName_local hk hn (λ h' hn' hs=>?_) hcls
  obtain⟨oL,_,_,hoL,_⟩:=id hn;refine h _ ⟨I.ok,I.os,I.bare,⟨λ b o e n hb hx=>?_,λ b o e n hb hx=>?_,I.base.free,λ b o e hx=>?_,I.base.o_,I.base.pf,I.base.sU⟩,⟨_,hn',λ j y v' e1 e2 e3=>?_⟩,λ y c e=>?_,I.free,I.lW,λ p hp=>?_,tracked ⟨oL,hoL,I.free⟩ hs,by simpa using I.len⟩ ⟨_,hs,.inl rfl⟩
  ·exact(hs.2 b (aP (aH (av e) I.ok.above))).trans (I.base.keep b o e n hb hx)
  ·obtain⟨sl,e1⟩:=I.base.slot b o e n hb hx;exact⟨sl,(hs.2 b (aP (aH (av e) I.ok.above))).trans e1⟩
  ·obtain⟨o',e1⟩:=I.base.there b o e hx;exact⟨o',(hs.2 b (aP (aH (av e) I.ok.above))).trans e1⟩
  ·by_cases hj:j=i
   ·subst hj;rw[hi]at e1;cases e1;rw[cv hiσ]at e2;cases e2;exact⟨u,r,.inl ⟨hk,by simp⟩⟩
   ·rw[cb (bj hj)]at e2
    obtain⟨u',r',q⟩:=hl j y v' e1 e2 e3;refine⟨u',r',?_⟩;rcases q with⟨k,e⟩ | ⟨k,c,e,z⟩
    ·refine .inl ⟨k,?_⟩;have:y≠x:=λ e=>hj (u9 hN e1 (e▸hi));simp[this,e]
    ·exact .inr ⟨k,c,e,z.sameBut hs (cne y c e)⟩
  ·obtain⟨w',z⟩:=I.cell y c e;exact⟨w',z.sameBut hs (cne y c e)⟩
  ·obtain⟨e,n,ne,nf,d⟩:=I.pin p hp;exact⟨(hs.2 p.1 ne).trans e,n,ne,nf,d⟩
 ·have hfn:X.fn x=Rm:=by
   rcases hf with z | z
   ·exact z
   ·rw[z]at hk;cases hk
  obtain⟨c,hc⟩:=I.ok.has x (.inl hk);obtain⟨w',z⟩:=I.cell x c hc;refine wpAny_storeName_cell I.ok.kind hk hc z (λ h' hc' hs=>?_);obtain⟨oc,hoc,hocd⟩:=id z;refine h {s with heap:=h'} ⟨I.ok,I.os,I.bare,⟨λ b o e n hb hx=>?_,λ b o e n hb hx=>?_,I.base.free,λ b o e hx=>?_,I.base.o_,I.base.pf,I.base.sU⟩,⟨m,hn.sameBut hs (bj (cne x c hc)),λ j y v' e1 e2 e3=>?_⟩,λ y c' e=>?_,I.free,I.lW,λ p hp=>?_,tracked ⟨oc,hoc,I.lW x c hc⟩ hs,by simpa using I.len⟩ ⟨c,hs,.inr hc⟩
  ·exact(hs.2 b (aP (aH (av e) (I.ok.cab x c hfn hc)))).trans (I.base.keep b o e n hb hx)
  ·obtain⟨sl,e1⟩:=I.base.slot b o e n hb hx;exact⟨sl,(hs.2 b (aP (aH (av e) (I.ok.cab x c hfn hc)))).trans e1⟩
  ·obtain⟨o',e1⟩:=I.base.there b o e hx;exact⟨o',(hs.2 b (aP (aH (av e) (I.ok.cab x c hfn hc)))).trans e1⟩
  ·by_cases hj:j=i
   ·subst hj;rw[hi]at e1;cases e1;rw[cv hiσ]at e2;cases e2;exact⟨u,r,.inr ⟨.inl hk,c,hc,hc'⟩⟩
   ·rw[cb (bj hj)]at e2
    obtain⟨u',r',q⟩:=hl j y v' e1 e2 e3;refine⟨u',r',?_⟩;rcases q with q | ⟨k,c',e,z'⟩
    ·exact .inl q
    ·refine .inr ⟨k,c',e,z'.sameBut hs ?_⟩;rintro rfl;exact hj (u9 hN e1 (I.ok.inj _ _ _ e hc▸hi))
  ·by_cases hcc:c'=c
   ·subst hcc;exact⟨_,hc'⟩
   ·obtain⟨w2,z2⟩:=I.cell y c' e;exact⟨w2,z2.sameBut hs hcc⟩
  ·obtain⟨e,n,ne,nf,d⟩:=I.pin p hp;refine⟨(hs.2 p.1 ?_).trans e,n,ne,nf,d⟩;intro q;rw[q,hoc]at e;have q':oc=p.2:=ak e;exact d w' (by rw[<-q'];exact hocd)
theorem rl {M:Model}{A:Around}{E:gE}{i:Nat}{x:Str}{v:V}{u:gH}{Q:Unit->gJ->Prop}(I:Inv X pins σ H s)(hN:X.N.Nodup)(hi:X.N[i]?=My x)(hx:Loc X.env.scope x)(r:RelV v u)
  (h:∀ s',Inv X pins (σ.set i (My v)) H s'->Q () s') (hf:X.fn x=Rm\/X.env.scope.names.lookup x=My .local:=by trivial):wpAny M A (storeName X.env x u) Q E s :=
 xA I hN hi hx r (λ s' I' _=>h s' I') hf
theorem Inv.M5 {s':gJ}{ch:List Addr}(I:Inv X pins σ H s)(ho:s'.os=s.os)(u:Un (frs X.stack) ch H H' s.heap s'.heap)(hok:HOk X.prog X.w H' s'.heap)(hg:AllBare s'.gens)
  (hch:∀ b∈ch,(b∈X.ex\/X.s₀.heap.objs.size<=b)/\b≠X.env.locals/\(∀ x c,X.env.cells.lookup x=My c->c≠b)/\∀ p∈X.pn++pins,p.1≠b):Inv X pins σ H' s':=by
 obtain⟨h',g',d',t',o'⟩:=s';have e:o'=s.os:=ho;subst e;exact I.call (g':=g') (t':=t') (d':=d') u hok hg hch
end
abbrev XK:=gH->gF Addr->Hp->Prop
abbrev St:=List (gF V)
abbrev VK:=V->Hp->Prop
abbrev TE:=St->Hp->VK->Prop
abbrev TT:=St->Hp->(Bool->Hp->Prop)->Prop
abbrev TA:=St->Hp->(List V->Hp->Prop)->Prop
set_option genInjectivity false in
set_option genSizeOf false in
structure Ends where
 nx:St->Hp->Prop
 rt:VK
 bk:St->Hp->Prop:=λ _ _=>False
 ct:St->Hp->Prop:=λ _ _=>False
abbrev TS:=Ends->St->Hp->Prop
def EP (X:Cx)(pins:gL)(σ:St)(Q:VK)(u:gH)(s':gJ):Prop:=∃ v H',Inv X pins σ H' s'/\RelV v u/\Q v H'
def TP (X:Cx)(pins:gL)(σ:St)(Q:Bool->Hp->Prop)(b:Bool)(s':gJ):Prop:=∃ H',Inv X pins σ H' s'/\Q b H'
def AP (X:Cx)(pins:gL)(σ:St)(Q:List V->Hp->Prop)(us:List gH)(s':gJ):Prop:=∃ vs H',Inv X pins σ H' s'/\Vals vs us/\Q vs H'
def SP (X:Cx)(pins:gL)(D:Ends)(f:Flow)(s':gJ):Prop :=
 match f with
 | .next=>∃ σ' H',Inv X pins σ' H' s'/\D.nx σ' H'
 | .brk=>∃ σ' H',Inv X pins σ' H' s'/\D.bk σ' H'
 | .cont=>∃ σ' H',Inv X pins σ' H' s'/\D.ct σ' H'
 | .ret u=>∃ v σ' H',Inv X pins σ' H' s'/\RelV v u/\D.rt v H'
def PE (X:Cx)(e:Expr)(t:TE):Prop :=
 ∀ (pins:gL) (s:gJ) (σ:St) (H:Hp) (Q:VK),Inv X pins σ H s->t σ H Q->wpAny (model X.prog X.w) X.A (eval e X.env) (EP X pins σ Q) X.xe s
def PT (X:Cx)(e:Expr)(t:TT):Prop :=
 ∀ (pins:gL) (s:gJ) (σ:St) (H:Hp) (Q:Bool->Hp->Prop),Inv X pins σ H s->t σ H Q->wpAny (model X.prog X.w) X.A (isTrue e X.env (eval e X.env)) (TP X pins σ Q) X.xe s
def PW (X:Cx)(e:Expr)(t:TT):Prop :=
 ∀ (whole:Sem gH) (pins:gL) (s:gJ) (σ:St) (H:Hp) (Q:Bool->Hp->Prop),Inv X pins σ H s->t σ H Q->wpAny (model X.prog X.w) X.A (isTrue e X.env whole) (TP X pins σ Q) X.xe s
theorem PW.pt {X:Cx}{e:Expr}{t:TT}(h:PW X e t):PT X e t:=h _
def PA (X:Cx)(es:List Expr)(t:TA):Prop :=
 ∀ (pos:Pos) (pins:gL) (s:gJ) (σ:St) (H:Hp) (Q:List V->Hp->Prop),Inv X pins σ H s->t σ H Q->wpAny (model X.prog X.w) X.A (spliced (backTo pos (starEach es X.env))) (AP X pins σ Q) X.xe s
def PS (X:Cx)(st:Stmt)(t:TS):Prop :=
 ∀ (pins:gL) (s:gJ) (σ:St) (H:Hp) (D:Ends),Inv X pins σ H s->t D σ H->wpAny (model X.prog X.w) X.A (exec st X.env) (SP X pins D) X.xe s
def PSs (X:Cx)(st:List Stmt)(t:TS):Prop :=
 ∀ (pins:gL) (s:gJ) (σ:St) (H:Hp) (D:Ends),Inv X pins σ H s->t D σ H->wpAny (model X.prog X.w) X.A (execs st X.env) (SP X pins D) X.xe s
theorem thn {α:Type}{t:Sem α}{Q Q':α->gJ->Prop}{M:Model}{A:Around}{E:gE}{s:gJ}(h:wpAny M A t Q E s)(hQ:∀ a s,Q a s->Q' a s):wpAny M A t Q' E s:=cW h hQ λ _ _ x=>x
section
variable {X:Cx}
theorem bin {a b:Expr}{ta tb:TE}(ha:PE X a ta)(hb:PE X b tb){pins:gL}{s:gJ}{σ:St}{H:Hp}{R:V->V->Hp->Prop}(I:Inv X pins σ H s)(h:ta σ H λ x H1=>tb σ H1 λ y H2=>R x y H2)
  {α:Type} {Q:α->gJ->Prop} {f:gH->gH->Sem α}
  (hf:∀ v u s2 x y H2,Inv X pins σ H2 s2->RelV x v->RelV y u->R x y H2->wpAny (model X.prog X.w) X.A (f v u) Q X.xe s2) :
  wpAny (model X.prog X.w) X.A (eval a X.env) (λ v s₁=>wpAny (model X.prog X.w) X.A (eval b X.env) (λ u s₂=>wpAny (model X.prog X.w) X.A (f v u) Q X.xe s₂) X.xe s₁) X.xe s:=by
 refine thn (ha pins s σ H _ I h) λ v s1 ⟨x,H1,I1,r1,q1⟩=>?_;refine thn (hb pins s1 σ H1 _ I1 q1) λ u s2 ⟨y,H2,I2,r2,q2⟩=>?_;exact hf v u s2 x y H2 I2 r1 r2 q2
def hX (i:Nat):TE:=λ σ H Q=>∃ v,σ[i]?=My (My v)/\Q v H
def tC (v:V):TE:=λ _ H Q=>Q v H
theorem Ey {i:Nat}{x:Str}{pos:Pos}(hN:X.N[i]?=My x)(hv:Vis X.env.scope x)(hd:(x==("__debug__":Str))=Rn:=by decide)(hcd:(x==("__classdict__":Str))=Rn:=by decide):PE X (.Name x pos) (hX i):=by
 intro pins s σ H Q I h;obtain⟨v,e,h⟩:=h;obtain⟨m,hn,hl⟩:=I.loc;obtain⟨u,r,l⟩:=hl i x v hN e hv;have fin:EP X pins σ Q u s:=⟨v,H,I,r,h⟩;rcases l with⟨hk,hm⟩ | ⟨hk,c,hc,hcell⟩
 ·exact wpAny_Name (wpAny_loadName_local I.ok.kind hk hn hm fin) hd
 ·rcases hk with hk | hk
  ·exact wpAny_Name (wpAny_loadName_cell I.ok.kind hk hc hcell fin) hd
  ·exact wpAny_Name (wpAny_loadName_free I.ok.kind hk hc hcell fin hcd) hd
theorem hJ {i j pos}:PE X (.Constant (.int i) j pos) (tC (.int i)):=λ _ _ _ H _ I h=>wpAny_Constant_int ⟨.int i,H,I.tok _,⟨_,rfl⟩,h⟩
theorem tZ {b j pos}:PE X (.Constant (.bool b) j pos) (tC (.bl b)):=λ _ _ _ H _ I h=>Constant_bool ⟨.bl b,H,I,rfl,h⟩
theorem qK {j pos}:PE X (.Constant .none j pos) (tC .non):=λ _ _ _ H _ I h=>Constant_none ⟨.non,H,I,rfl,h⟩
theorem yp {x j pos}:PE X (.Constant (.str x) j pos) (tC (.str x)):=λ _ _ _ H _ I h=>Calls.Constant_str ⟨.str x,H,I.tok _,⟨_,rfl⟩,h⟩
def Gl (X:Cx)(x:Str):Prop:=X.env.kindOf x=My .globalImplicit
theorem rm {E:gE}{pins:gL}{s:gJ}{σ:St}{H:Hp}{x:Str}{u:gH}{pos:Pos}{Q:gE}(I:Inv X pins σ H s)(hg:Gl X x)(hm:X.mg x=My u)(h:Q u s)
  (hd:(x==("__debug__":Str))=Rn:=by decide):wpAny (model X.prog X.w) X.A (eval (.Name x pos) X.env) Q E s :=
 Calls.Name_function_global I.ok.kind hg (Calls.loadGlobal_global (by rw[I.ok.glob];exact I.mod.glob.keeps I.bk) hm h) hd
theorem sW {E:gE}{pins:gL}{s:gJ}{σ:St}{H:Hp}{x:Str}{u:gH}{pos:Pos}{Q:gE}(I:Inv X pins σ H s)(hg:Gl X x)(hm:X.mg x=Rl)(hv:bootBuiltins x=My u)(h:Q u s)
  (hn:x≠"__name__":=by decide) (hd:(x==("__debug__":Str))=Rn:=by decide):wpAny (model X.prog X.w) X.A (eval (.Name x pos) X.env) Q E s:=by
 obtain⟨mb,h1,h2⟩:=I.mod.blt;exact Calls.Name_function_global I.ok.kind hg (Calls.loadGlobal_builtin (by rw[I.ok.glob];exact I.mod.glob.keeps I.bk) hm (by rw[I.ok.blt];exact h1.keeps I.bk) ((h2 x hn).trans hv) h) hd
theorem Cn {x:Str}{v:V}{u:gH}{pos:Pos}(hg:Gl X x)(hm:X.mg x=My u)(r:RelV v u)(hd:(x==("__debug__":Str))=Rn:=by decide):PE X (.Name x pos) (tC v) :=
 λ _ _ _ H _ I h=>rm I hg hm ⟨v,H,I,r,h⟩ hd
theorem Co {x:Str}{v:V}{u:gH}{pos:Pos}(hg:Gl X x)(hm:X.mg x=Rl)(hv:bootBuiltins x=My u)(r:RelV v u)(hn:x≠"__name__":=by decide)(hd:(x==("__debug__":Str))=Rn:=by decide):PE X (.Name x pos) (tC v) :=
 λ _ _ _ H _ I h=>sW I hg hm hv ⟨v,H,I,r,h⟩ hn hd
variable {a b:Expr}{ta tb:TE}{pos:Pos}
def PC (X:Cx)(op:CmpOp)(a b:Expr)(t:TE):Prop :=
 ∀ (pins:gL) (s:gJ) (σ:St) (H:Hp) (Q:VK),Inv X pins σ H s->t σ H Q ->
  wpAny (model X.prog X.w) X.A (eval a X.env) (λ v s₁=>wpAny (model X.prog X.w) X.A (eval b X.env) (λ u s₂=>wpAny (model X.prog X.w) X.A (compareOp op v u) (EP X pins σ Q) X.xe s₂) X.xe s₁) X.xe s
def tB (t:TE):TT:=λ σ H Q=>t σ H λ x H1=>∃ c,x=.bl c/\Q c H1
theorem KP {op:CmpOp}{t:TE}(h:PC X op a b t)(h1:behindInMarks op b=Rn):PT X (.Compare a [op] [b] pos) (tB t):=by intro pins s σ H Q I hw;refine wpAny_isTrue_Compare1 (thn (h pins s σ H _ I hw) λ v s1 h1=>thn h1 λ u s2 h2=>thn h2 λ c s3 ⟨x,H1,I1,r1,q1⟩=>?_) h1;obtain⟨d,rfl,q⟩:=q1;cases r1;exact bQ ⟨H1,I1,q⟩
theorem Ez {e:Expr}{t:TE}(h:PE X e t)(he:∀ whole,isTrue e X.env whole=(do let v<-whole;standAt e.pos;holding [v] (truthy v)):=by intro _;rfl):PT X e (tB t):=by intro pins s σ H Q I hw;refine isTrue_plain (thn (h pins s σ H _ I hw) λ v s1 ⟨x,H1,I1,r1,q1⟩=>?_) (he _);obtain⟨d,rfl,q⟩:=q1;cases r1;exact bQ ⟨H1,I1,q⟩
variable {tA tB':TT}{rest:List Expr}
def Pk (t u:TT):TT:=λ σ H Q=>t σ H λ c H1=>if c=Rm then u σ H1 Q else Q Rn H1
def tOr (t u:TT):TT:=λ σ H Q=>t σ H λ c H1=>if c=Rm then Q Rm H1 else u σ H1 Q
def M6 (t:TT):TT:=λ σ H Q=>t σ H λ c H1=>Q (!c) H1
theorem Hx (ha:PT X a tA):PW X (.BoolOp .And [a] pos) tA:=by
 intro wh pins s σ H Q I h;refine isTrue_and (thn (ha pins s σ H Q I h) λ c s1 e=>?_);cases c with
 | true=>exact isTrue_and_nil e
 | false=>exact e
theorem yq (ha:PT X a tA):PW X (.BoolOp .Or [a] pos) tA:=by
 intro wh pins s σ H Q I h;refine isTrue_or (thn (ha pins s σ H Q I h) λ c s1 e=>?_);cases c with
 | false=>exact isTrue_or_nil e
 | true=>exact e
theorem KQ (ha:PT X a tA)(hb:PW X (.BoolOp .And (b::rest) pos) tB'):PW X (.BoolOp .And (a::b::rest) pos) (Pk tA tB'):=by
 intro wh pins s σ H Q I h;refine isTrue_and (thn (ha pins s σ H _ I h) λ c s1 ⟨H1,I1,q1⟩=>?_);cases c with
 | true=>exact hb wh pins s1 σ H1 Q I1 q1
 | false=>exact⟨H1,I1,q1⟩
theorem Cp (ha:PT X a tA)(hb:PW X (.BoolOp .Or (b::rest) pos) tB'):PW X (.BoolOp .Or (a::b::rest) pos) (tOr tA tB'):=by
 intro wh pins s σ H Q I h;refine isTrue_or (thn (ha pins s σ H _ I h) λ c s1 ⟨H1,I1,q1⟩=>?_);cases c with
 | true=>exact⟨H1,I1,q1⟩
 | false=>exact hb wh pins s1 σ H1 Q I1 q1
theorem Bf (ha:PT X a tA):PT X (.UnaryOp .Not a pos) (M6 tA):=by intro pins s σ H Q I h;exact isTrue_not (ha pins s σ H (λ c H1=>Q (!c) H1) I h)
def M7 (ta tb:TE):TE:=λ σ H Q=>ta σ H λ x H1=>∃ c,x=.bl c/\if c=Rm then tb σ H1 Q else Q (.bl Rn) H1
def M8 (ta:TE):TE:=λ σ H Q=>ta σ H λ x H1=>∃ c,x=.bl c/\Q (.bl (!c)) H1
theorem KR {op}{t:TE}(h:PE X a t):PE X (.BoolOp op [a] pos) t:=λ pins s σ H Q I hw=>BoolOp_one (h pins s σ H Q I hw)
theorem KS (ha:PE X a ta)(hb:PE X (.BoolOp .And (b::rest) pos) tb):PE X (.BoolOp .And (a::b::rest) pos) (M7 ta tb):=by
 intro pins s σ H Q I h;refine BoolOp_and (thn (ha pins s σ H _ I h) λ v s1 ⟨x,H1,I1,r1,q1⟩=>?_);obtain⟨c,rfl,q1⟩:=q1;cases r1;refine bQ ?_;cases c with
 | true=>exact hb pins s1 σ H1 Q I1 q1
 | false=>exact⟨.bl Rn,H1,I1,rfl,q1⟩
theorem KU (ha:PE X a ta):PE X (.UnaryOp .Not a pos) (M8 ta):=by intro pins s σ H Q I h;refine UnaryOp_ (thn (ha pins s σ H _ I h) λ v s1 ⟨x,H1,I1,r1,q1⟩=>?_);obtain⟨c,rfl,q1⟩:=q1;cases r1;exact not_of (bQ ⟨.bl (!c),H1,I1,rfl,q1⟩)
def tIf (t:TT)(ta tb:TE):TE:=λ σ H Q=>t σ H λ c H1=>if c=Rm then ta σ H1 Q else tb σ H1 Q
theorem zL {c:Expr}(hc:PT X c tA)(ha:PE X a ta)(hb:PE X b tb):PE X (.IfExp c a b pos) (tIf tA ta tb):=by
 intro pins s σ H Q I h;refine wpAny_IfExp (thn (hc pins s σ H _ I h) λ d s1 ⟨H1,I1,q1⟩=>?_);cases d with
 | true=>exact ha pins s1 σ H1 Q I1 q1
 | false=>exact hb pins s1 σ H1 Q I1 q1
end
def SqL (K:gG)(H:Hp)(a:Addr)(xs:List V):Prop :=
 Rd H a (.lst xs) \/
  ∃ (o:Obj) (its:Array gH) (n:Nat),K.lookup a=My o/\o.cls=.type "list"/\o.dict=Rl/\o.data=.seq its n/\its.size<=sizeLine/\Vals xs its.toList
def SqT (K:gG)(H:Hp)(a:Addr)(xs:List V):Prop :=
 Rd H a (.tup xs) \/
  ∃ (o:Obj) (its:Array gH) (n:Nat),K.lookup a=My o/\(o.cls=.type "tuple"/\o.dict=Rl)/\o.data=.seq its n/\its.size<=sizeLine/\Vals xs its.toList
def Pl:gH->gF V
 | .none=>My .non
 | .bool b=>My (.bl b)
 | .int i _=>My (.int i)
 | .str x _=>My (.str x)
 | .bytes b _=>My (.byt b)
 | .float b _=>My (.flt b)
 | .ref a=>My (.ref a)
 | .type n=>My (.ty n)
 | _=>Rl
theorem RelV.abs {x:V}{u:gH}(r:RelV x u):Pl u=My x:=by
 cases x with
 | non=>cases r;rfl
 | bl _=>cases r;rfl
 | int _=>obtain⟨t,rfl⟩:=r;rfl
 | str _=>obtain⟨t,rfl⟩:=r;rfl
 | byt _=>obtain⟨t,rfl⟩:=r;rfl
 | flt _=>obtain⟨t,rfl⟩:=r;rfl
 | ref _=>cases r;rfl
 | ty _=>cases r;rfl
theorem RelV.inj {x y:V}{u:gH}(r:RelV x u)(q:RelV y u):x=y:=ak (r.abs.symm.trans q.abs)
theorem Vals.inj:∀ {xs ys:List V} {us:List gH},Vals xs us->Vals ys us->xs=ys
 := by
  intro xs ys us h;induction h generalizing ys with
  | nil=>intro h';cases h';rfl
  | cons r t ih=>intro h';cases h' with | cons r' t'=>rw[r.inj r',ih t']
section
variable {X:Cx}{pins:gL}{σ:St}{H:Hp}{s:gJ}{a:Addr}{xs ys:List V}
theorem SqL.of {K:gG}(h:H a=My (.lst xs)):SqL K H a xs:=.inl (.inl h)
theorem SqT.of {K:gG}(h:H a=My (.tup xs)):SqT K H a xs:=.inl (.inl h)
theorem Inv.list (I:Inv X pins σ H s)(h:SqL X.K H a xs):∃ its:List gH,Vals xs its/\PlainL s.heap a its.toArray/\xs.length<=sizeLine:=by
 rcases h with h | ⟨o,its,n,hk,hc,hd,hs,hz,r⟩
 ·obtain⟨z,its,n,r,e⟩:=h.ok I.hok;exact⟨its,r,⟨_,n,e,rfl,rfl,rfl⟩,z⟩
 ·refine⟨its.toList,r,⟨o,n,I.kIn a o hk,hc,hd,by simpa using hs⟩,?_⟩;have e:=r.length;simp only[bx]at e;lia
theorem Inv.tuple (I:Inv X pins σ H s)(h:SqT X.K H a xs):∃ its:List gH,Vals xs its/\IsTup s.heap a its.toArray/\xs.length<=sizeLine:=by
 rcases h with h | ⟨o,its,n,hk,hc,hs,hz,r⟩
 ·obtain⟨z,its,r,p⟩:=h.ok I.hok;exact⟨its,r,p,z.1⟩
 ·refine⟨its.toList,r,⟨o,I.kIn a o hk,hc.1,n,by simpa using hs⟩,?_⟩;have e:=r.length;simp only[bx]at e;lia
theorem Inv.zM (I:Inv X pins σ H s)(h:SqL X.K H a xs)(h':SqL X.K H a ys):xs=ys:=by
 obtain⟨its,r,⟨o,n,e,_,_,d⟩,_⟩:=I.list h;obtain⟨its',r',⟨o',n',e',_,_,d'⟩,_⟩:=I.list h';rw[e]at e';cases e';rw[d]at d';injection d' with d1 _;have:its=its':=by simpa using cK Array.toList d1
 subst this;exact r.inj r'
theorem Inv.sX (I:Inv X pins σ H s)(h:SqT X.K H a xs)(h':SqT X.K H a ys):xs=ys:=by
 obtain⟨its,r,⟨o,e,_,n,d⟩,_⟩:=I.tuple h;obtain⟨its',r',⟨o',e',_,n',d'⟩,_⟩:=I.tuple h';rw[e]at e';cases e';rw[d]at d';injection d' with d1 _;have:its=its':=by simpa using cK Array.toList d1
 subst this;exact r.inj r'
end
abbrev Cx.wY (X:Cx)(E:gE):Cx:={X with xe:=E}
abbrev Cx.nox (X:Cx):Cx:=X.wY λ _ _=>False
theorem Cx.Ok.wY {X:Cx}(ok:X.Ok)(E:gE):(X.wY E).Ok :=
 ⟨ok.mod,ok.kind,ok.glob,ok.blt,ok.above,ok.inj,ok.has,ok.cab,ok.hd,ok.frames,ok.stk,ok.exf,ok.bs,ok.bsz,ok.Bd,ok.Ex,ok.sV,ok.frf⟩
theorem Cx.Ok.pB {X:Cx}{E:gE}(ok:(X.wY E).Ok):X.Ok :=
 ⟨ok.mod,ok.kind,ok.glob,ok.blt,ok.above,ok.inj,ok.has,ok.cab,ok.hd,ok.frames,ok.stk,ok.exf,ok.bs,ok.bsz,ok.Bd,ok.Ex,ok.sV,ok.frf⟩
section
variable {X:Cx}{pins:gL}{σ:St}{H:Hp}{s:gJ}{E:gE}
theorem Inv.wY (I:Inv X pins σ H s)(E:gE):Inv (X.wY E) pins σ H s:=⟨I.ok.wY E,I.os,I.bare,I.base,I.loc,I.cell,I.free,I.lW,I.pin,I.hok,I.len⟩
theorem Inv.pB (I:Inv (X.wY E) pins σ H s):Inv X pins σ H s:=⟨I.ok.pB,I.os,I.bare,I.base,I.loc,I.cell,I.free,I.lW,I.pin,I.hok,I.len⟩
theorem SP.pB {D:Ends}{f:Flow}{s':gJ}(h:SP (X.wY E) pins D f s'):SP X pins D f s':=by
 cases f with
 | next=>obtain⟨σ',H',I,q⟩:=h;exact⟨σ',H',I.pB,q⟩
 | brk=>obtain⟨σ',H',I,q⟩:=h;exact⟨σ',H',I.pB,q⟩
 | cont=>obtain⟨σ',H',I,q⟩:=h;exact⟨σ',H',I.pB,q⟩
 | ret u=>obtain⟨v,σ',H',I,r,q⟩:=h;exact⟨v,σ',H',I.pB,r,q⟩
theorem PSs.nox {st:List Stmt}{t:TS}(h:PSs X.nox st t):PSs X st t:=λ pins s σ H D I hw =>cW (h pins s σ H D (I.wY _) hw) (λ _ _ q=>q.pB) λ _ _ z=>False.elim z
end
section
variable {X:Cx}{st:Stmt}{rest:List Stmt}{t u:TS}{e:Expr}{te:TE}{pos:Pos}
def xB:TS:=λ D σ H=>D.nx σ H
def jh (t u:TS):TS:=λ D σ H=>t {D with nx:=u D} σ H
theorem lQ:PSs X [] xB:=λ _ _ σ H _ I h=>fx ⟨σ,H,I,h⟩
theorem g0 (h1:PS X st t)(h2:PSs X rest u):PSs X (st::rest) (jh t u):=by
 intro pins s σ H D I h;refine wpAny_execs_cons (thn (h1 pins s σ H {D with nx:=u D} I h) λ f s1 q=>?_);cases f with
 | next =>obtain⟨σ',H',I',q⟩:=q;exact h2 pins s1 σ' H' D I' q
 | ret v=>exact q
 | brk=>exact q
 | cont=>exact q
theorem iW (h1:PS X st t):PSs X [st] t:=by
 intro pins s σ H D I h;refine wpAny_execs_cons (thn (h1 pins s σ H D I h) λ f s1 q=>?_);cases f with
 | next=>exact fx q
 | ret v=>exact q
 | brk=>exact q
 | cont=>exact q
theorem Inv.quiet {pins:gL}{σ:St}{H:Hp}{s:gJ}(I:Inv X pins σ H s):interactive X.env=Rn:=by simp[interactive,I.ok.kind]
def Cq (te:TE):TS:=λ D σ H=>te σ H λ _ H1=>D.nx σ H1
theorem uK (he:PE X e te)(hs:swapsWith e Rl pos.line X.env=pure Rn:=by rfl):PS X (.Expr e pos) (Cq te):=by intro pins s σ H D I h;exact wpAny_Expr_any (thn (he pins s σ H _ I h) λ v s1 ⟨x,H1,I1,r1,q1⟩=>⟨σ,H1,I1,q1⟩) I.quiet hs
def wZ (te:TE):TS:=λ D σ H=>te σ H D.rt
theorem kG (he:PE X e te):PS X (.Return (My e) pos) (wZ te):=by intro pins s σ H D I h;exact wpAny_Return_some (thn (he pins s σ H _ I h) λ v s1 ⟨x,H1,I1,r1,q1⟩=>⟨x,σ,H1,I1,r1,q1⟩)
def Bg (c:TT)(t u:TS):TS:=λ D σ H=>c σ H λ b H1=>if b=Rm then t D σ H1 else u D σ H1
theorem qy {c:Expr}{a b:List Stmt}{tc:TT}(hc:PT X c tc)(ha:PSs X a t)(hb:PSs X b u):PS X (.If c a b pos) (Bg tc t u):=by
 intro pins s σ H D I h;refine wpAny_If (thn (hc pins s σ H _ I h) λ d s1 ⟨H1,I1,q1⟩=>?_);cases d with
 | true=>exact ha pins s1 σ H1 D I1 q1
 | false=>exact hb pins s1 σ H1 D I1 q1
end
abbrev TG:=V->St->Hp->(St->Hp->Prop)->Prop
abbrev TGs:=List V->St->Hp->(St->Hp->Prop)->Prop
def PG (X:Cx)(target:Expr)(t:TG):Prop :=
 ∀ (pins:gL) (s:gJ) (σ:St) (H:Hp) (v:V) (u:gH) (Q:St->Hp->Prop),Inv X pins σ H s->RelV v u->t v σ H Q ->
  wpAny (model X.prog X.w) X.A (assign target X.env u) (λ _ s'=>∃ σ' H',Inv X pins σ' H' s'/\Q σ' H') X.xe s
def PGs (X:Cx)(ts:List Expr)(t:TGs):Prop :=
 ∀ (pins:gL) (s:gJ) (σ:St) (H:Hp) (vs:List V) (us:List gH) (Q:St->Hp->Prop),Inv X pins σ H s->Vals vs us->t vs σ H Q ->
  wpAny (model X.prog X.w) X.A (assignInOrder ((assignEach ts X.env).map (·.2)) us) (λ _ s'=>∃ σ' H',Inv X pins σ' H' s'/\Q σ' H') X.xe s
abbrev KW:=V->V->V->Hp->(Hp->Prop)->Prop
def M9 (X:Cx)(t:KW):Prop :=
 ∀ (pins:gL) (s:gJ) (σ:St) (H:Hp) (o i v:V) (ov iv u:gH) (Q:Hp->Prop),Inv X pins σ H s->RelV o ov->RelV i iv->RelV v u->t o i v H Q ->
  wpAny (model X.prog X.w) X.A (setItem ov iv u) (λ _ s'=>∃ H',Inv X pins σ H' s'/\Q H') X.xe s
section
variable {X:Cx}{pos:Pos}
def iM (i:Nat):TG:=λ v σ H Q=>Q (σ.set i (My v)) H
theorem Hy {i:Nat}{x:Str}(hN:X.N.Nodup)(hi:X.N[i]?=My x)(hx:Loc X.env.scope x)(hf:X.fn x=Rm\/X.env.scope.names.lookup x=My .local:=by trivial):PG X (.Name x pos) (iM i):=by intro pins s σ H v u Q I r h;exact wpAny_assign_Name (rl I hN hi hx r (λ s' I'=>⟨_,H,I',h⟩) hf)
def EA:TGs:=λ vs σ H Q=>vs=[]/\Q σ H
def t_ (t:TG)(u:TGs):TGs:=λ vs σ H Q=>∃ v r,vs=v::r/\t v σ H λ σ' H'=>u r σ' H' Q
theorem mE:PGs X [] EA:=by intro pins s σ H vs us Q I r h;obtain⟨e,h⟩:=h;subst e;cases r;exact assignInOrder_nil ⟨σ,H,I,h⟩
theorem je {e:Expr}{es:List Expr}{t:TG}{u:TGs}(h1:PG X e t)(h2:PGs X es u)
  (hs:(assignEach (e::es) X.env).map (·.2)=assign e X.env::(assignEach es X.env).map (·.2):=by rfl):PGs X (e::es) (t_ t u):=by
 intro pins s σ H vs us Q I r h;obtain⟨v,vr,e1,h⟩:=h;subst e1;cases r with
 | cons r rr =>rw[hs];refine assignInOrder_cons (thn (h1 pins s σ H _ _ _ I r h) λ _ s1 ⟨σ1,H1,I1,q1⟩=>?_);exact h2 pins s1 σ1 H1 _ _ Q I1 rr q1
def EB (K:gG)(n:Nat)(t:TGs):TG:=λ v σ H Q=>∃ a xs,v=.ref a/\SqT K H a xs/\xs.length=n/\t xs σ H Q
theorem nZ {es:List Expr}{k:Nat}{t:TGs}{n:Nat}(hc:X.calm=Rm)(h:PGs X es t)
  (hn:(assignEach es X.env).length=n:=by rfl) (hst:(assignEach es X.env).findIdx? (·.1)=Rl:=by rfl):PG X (.Tuple es k pos) (EB X.K n t):=by
 intro pins s σ H v u Q I r hw;obtain⟨a,xs,e1,hq,hl,hw⟩:=hw;subst e1;cases r;obtain⟨its,rv,ht,hz⟩:=I.tuple hq;refine assign_Tuple_tuple (I.ok.hd hc) ht (by simp[hn,<-hl,rv.length]) hst λ h' hx=>?_;have I1:Inv X pins σ H {s with heap:=h'}:=I.kept (t':=s.toks) λ b o e=>hx b o (aP (av e)) e;exact h pins _ σ H xs _ Q I1 (by simpa using rv) hw
def KY (to ti:TE)(t:KW):TG:=λ v σ H Q=>to σ H λ o H1=>ti σ H1 λ i H2=>t o i v H2 λ H3=>Q σ H3
theorem Bh {o i:Expr}{to ti:TE}{t:KW}(ho:PE X o to)(hi:PE X i ti)(hs:M9 X t)
  (ha:∀ v,assign (.Subscript o i pos) X.env v=(do
   let ov<-holding [v] (eval o X.env);let iv<-holding [v,ov] (eval i X.env)
   standAt pos
   holding [v,ov,iv] (setItem ov iv v)
   release [v,ov,iv] []):=by intro _;rfl):PG X (.Subscript o i pos) (KY to ti t):=by
 intro pins s σ H v u Q I r h;rw[ha];refine ae (bK (thn (ho pins s σ H _ I h) λ ov s1 ⟨x,H1,I1,r1,q1⟩=>?_));refine ae (bK (thn (hi pins s1 σ H1 _ I1 q1) λ iv s2 ⟨y,H2,I2,r2,q2⟩=>?_));refine ae (wpAny_standAt (ae (bK (thn (hs pins s2 σ H2 x y v ov iv u _ I2 r1 r2 r q2) λ _ s3 ⟨H3,I3,q3⟩=>?_))));exact wpAny_release ⟨σ,H3,I3,q3⟩
def kH (te:TE)(g:TG):TS:=λ D σ H=>te σ H λ x H1=>g x σ H1 D.nx
theorem yr {tg e:Expr}{te:TE}{g:TG}(he:PE X e te)(hg:PG X tg g)(hs:swapsWithSole [tg] e pos.line X.env=pure Rn:=by rfl)(hw:swappedStores [tg] e X.env=pure Rl:=by rfl)
  (h1:(assignEach [tg] X.env).map (·.2)=[assign tg X.env]:=by rfl):PS X (.Assign [tg] e pos) (kH te g):=by
 intro pins s σ H D I h;refine wpAny_Assign_stores (thn (he pins s σ H _ I h) λ v s1 ⟨x,H1,I1,r1,q1⟩=>?_) hs hw;rw[h1];exact thn (hg pins s1 σ H1 x v _ I1 r1 q1) λ _ s2 q=>q
theorem iX {i:Nat}{x:Str}{e:Expr}{te:TE}{pos':Pos}(hN:X.N.Nodup)(hi:X.N[i]?=My x)(hx:Loc X.env.scope x)(he:PE X e te)(hs:swapsWith e (My (.Name x pos')) pos.line X.env=pure Rn:=by rfl)(hf:X.fn x=Rm\/X.env.scope.names.lookup x=My .local:=by trivial) :
  PS X (.Assign [.Name x pos'] e pos) (kH te (iM i)):=by
 intro pins s σ H D I h;refine wpAny_Assign_Name (thn (he pins s σ H _ I h) λ v s1 ⟨y,H1,I1,r1,q1⟩=>?_) hs;exact rl I1 hN hi hx r1 (λ s2 I2=>⟨_,H1,I2,q1⟩) hf
end
section
variable {X:Cx}{pos:Pos}
def EC (c:TT)(tb:TS):TS:=λ D σ H=>∃ W:Nat->St->Hp->Prop,(∃ m,W m σ H)/\∀ m σ H,W m σ H ->
 c σ H λ b H1=>if b=Rm then ∃ N:St->Hp->Prop,(∀ σ' H',N σ' H'->∃ m',m'<m/\W m' σ' H')/\tb {D with nx:=N,ct:=N,bk:=D.nx} σ H1 else D.nx σ H1
theorem ED {c:Expr}{body:List Stmt}{tc:TT}{tb:TS}(hp:PassesOwn (model X.prog X.w) X.A X.env X.xe)(hc:PT X c tc)(hb:PSs X body tb):PS X (.While c body [] pos) (EC tc tb):=by
 intro pins s σ H D I h;obtain⟨W,⟨m0,w0⟩,turn⟩:=h;refine wpAny_While (codeAny_whileLoop (λ n s'=>∃ σ' H',Inv X pins σ' H' s'/\W n σ' H') ?_ m0 ⟨σ,H,I,w0⟩);rintro n s1 ⟨σ1,H1,I1,w1⟩;refine da hp (thn (hc pins s1 σ1 H1 _ I1 (turn n σ1 H1 w1)) λ b s2 ⟨H2,I2,q2⟩=>?_);cases b with
 | true =>
  obtain⟨N,hN,q2⟩:=q2;rw[ai rfl];refine da hp (thn (hb pins s2 σ1 H2 _ I2 q2) λ f s3 q3=>?_);cases f with
  | next =>obtain⟨σ3,H3,I3,n3⟩:=q3;obtain⟨m',hm,w3⟩:=hN σ3 H3 n3;exact⟨m',hm,σ3,H3,I3,w3⟩
  | cont =>obtain⟨σ3,H3,I3,n3⟩:=q3;obtain⟨m',hm,w3⟩:=hN σ3 H3 n3;exact⟨m',hm,σ3,H3,I3,w3⟩
  | brk=>exact q3
  | ret v=>exact q3
 | false =>rw[aq au];exact fx ⟨σ1,H2,I2,q2⟩
end
structure It where
 go:Nat->Hp->Prop
 yld:Nat->Hp->V->Hp->Prop
 stop:Nat->Hp->Prop
def ux (X:Cx)(pins:gL)(H:Hp)(b:Addr):Prop :=
 H b=Rl/\b≠X.env.locals/\b∉X.fs/\(b∈X.ex\/X.s₀.heap.objs.size<=b)/\(∀ x c,X.env.cells.lookup x=My c->c≠b)/\∀ p∈X.pn++pins,p.1≠b
theorem Inv.Hz {X:Cx}{pins:gL}{σ:St}{H H':Hp}{s:gJ}{b:Addr}(I:Inv X pins σ H s)(hb:s.heap.objs.size<=b)(hn:H' b=Rl):ux X pins H' b:=by
 refine⟨hn,bR (aH I.lt hb),I.Pj hb,.inr (bA I.sz hb),λ x c e z=>?_,λ p hp z=>?_⟩
 ·obtain⟨v,q⟩:=I.cell x c e;exact absurd (aH q.lt (by rw[z];exact hb)) (aW _)
 ·exact absurd (aH (av (I.pin p hp).1) (by rw[z];exact hb)) (aW _)
structure Turn (P:Program)(w:World)(K:gG)(tg:Expr)(J:It)(fp:List Addr)(it:Addr)(tn:Nat->Heap->Prop):Prop where
 mem:it∈fp
 obj:∀ i h,tn i h->∀ b∈fp,∃ o,h.get? b=My o/\∀ v,o.data≠.cell v
 keep:∀ i h h',tn i h->(∀ b∈fp,∀ o,h.get? b=My o->h'.get? b=My o)->tn i h'
 item:∀ (X:Cx),X.prog=P->X.w=w->X.K=K->X.calm=Rm->∀ (i:Nat) (pins:gL) (s:gJ) (σ:St) (H:Hp) (E:gE),Inv X pins σ H s->(∀ b∈fp,ux X pins H b)->tn i s.heap->J.go i H ->
  wpAny (model P w) X.A (pyNext (.ref it)) (λ r s1=>∃ u,r=My u /\
   wpAny (model P w) X.A (letOwnedTupleGo tg (.ref it) u) (λ _ s2=>∃ x H',Inv X pins σ H' s2/\RelV x u/\J.yld i H x H'/\tn (i+1) s2.heap/\∀ b∈fp,H' b=Rl) E s1) E s
 done:∀ (X:Cx),X.prog=P->X.w=w->X.K=K->X.calm=Rm->∀ (i:Nat) (pins:gL) (s:gJ) (σ:St) (H:Hp) (E:gE),Inv X pins σ H s->(∀ b∈fp,ux X pins H b)->tn i s.heap->J.stop i H ->
  wpAny (model P w) X.A (pyNext (.ref it)) (λ r s1=>r=Rl/\Inv X pins σ H s1) E s
 self:∀ (A:Around) (i:Nat) (s:gJ) (Q:gE) (E:gE),tn i s.heap->Q (.ref it) s->wpAny (model P w) A (pyIter (.ref it)) Q E s
abbrev TI:=St->Hp->(It->Hp->Prop)->Prop
def PIE (X:Cx)(pins:gL)(σ:St)(tg:Expr)(R:It->Hp->Prop)(itv:gH)(s2:gJ):Prop :=
 ∃ (it:Addr) (fp:List Addr) (tn:Nat->Heap->Prop) (J:It) (H':Hp),itv=.ref it/\Inv X pins σ H' s2/\Turn X.prog X.w X.K tg J fp it tn/\tn 0 s2.heap/\(∀ b∈fp,ux X pins H' b)/\R J H'
def PI (X:Cx)(tg iter:Expr)(wi:TI):Prop :=
 ∀ (pins:gL) (s:gJ) (σ:St) (H:Hp) (R:It->Hp->Prop),Inv X pins σ H s->wi σ H R ->
  wpAny (model X.prog X.w) X.A (eval iter X.env) (λ v s1=>wpAny (model X.prog X.w) X.A (pyIter v) (PIE X pins σ tg R) X.xe s1) X.xe s
theorem EE {M : Model}{A : Around}{E : gH -> gJ -> Prop}{s : gJ}{tg : Expr}{it : Addr}{u : gH}{o : Obj}{n : String}{vs : Array gH}{Q : Unit -> gJ -> Prop}(ho : s.heap.get? it = My o)(hc : o.cls = .type n)(hd : o.data = .fields vs)
    (hn : ["enumerate", "zip", "dict_itemiterator", "dict_reverseitemiterator", "odict_iterator", "itertools.zip_longest", "itertools.pairwise"].contains n = Rn) (hQ : Q () s) : wpAny M A (letOwnedTupleGo tg (.ref it) u) Q E s := by
  unfold letOwnedTupleGo;cases tg <;> first
    | exact af hQ
    | (cases u <;> first
        | exact af hQ
        | (refine ae (wpAny_load ho ?_)
           rw[hc, hd];show wpAny M A (if (["enumerate", "zip", "dict_itemiterator", "dict_reverseitemiterator", "odict_iterator", "itertools.zip_longest", "itertools.pairwise"].contains n && vs[0]? == My (rawInt _)) = Rm then _ else _) Q E s;rw[aq (by intro h; rw[hn, gq]at h; cases h)];exact af hQ))
def Itl (K:gG)(a:Addr):It :=
 ⟨λ i H=>∃ xs x,SqL K H a xs/\xs[i]?=My x,λ i H x H'=>H'=H/\∀ xs,SqL K H a xs->xs[i]?=My x,λ i H=>∃ xs,SqL K H a xs/\xs.length<=i⟩
def Itt (K:gG)(a:Addr):It :=
 ⟨λ i H=>∃ xs x,SqT K H a xs/\xs[i]?=My x,λ i H x H'=>H'=H/\∀ xs,SqT K H a xs->xs[i]?=My x,λ i H=>∃ xs,SqT K H a xs/\xs.length<=i⟩
def Itr (lo:Int)(n:Nat):It:=⟨λ i _=>i<n,λ i H x H'=>H'=H/\x=.int (lo+i),λ i _=>n<=i⟩
theorem Ds {P:Program}{w:World}{K:gG}{tg:Expr}(a it:Addr):Turn P w K tg (Itl K a) [it] it (λ i h=>h.IsListIter it a i) where
 mem:=by simp
 obj:=λ i h st b hb=>by
  have e:b=it:=by simpa using hb
  subst e;obtain⟨o,e,c,d⟩:=st;exact⟨o,e,λ v z=>by rw[d]at z;cases z⟩
 keep:=λ i h h' st k=>st.at λ o e=>k it (by simp) o e
 item:=by intro X hP hw hK hc i pins s σ H E I hf st hg;subst hP hw hK;obtain⟨xs,x,hq,hx⟩:=hg;obtain⟨its,rv,p,hz⟩:=I.list hq;obtain⟨u,hu,ru⟩:=rv.get hx;obtain⟨f0,f1,f2,f3,f4,f5⟩:=hf it (by simp);refine wpAny_pyNext_list_item st p.isList (x:=u) (by simpa using hu) λ h' st' sb=>?_;have I1:Inv X pins σ H {s with heap:=h'}:=I.turned (t':=s.toks) (λ b o hb e=>(sb.2 b hb).trans e) f0 f1 f3 f4 f5;obtain⟨o,e,c,d⟩:=id st';exact⟨u,rfl,EE (s:={s with heap:=h'}) e c d (by decide) ⟨x,H,I1,ru,⟨rfl,λ ys hy=>by rw[I.zM hy hq];exact hx⟩,st',λ b hb=>(hf b hb).1⟩⟩
 done:=by intro X hP hw hK hc i pins s σ H E I hf st hg;subst hP hw hK;obtain⟨xs,hq,hx⟩:=hg;obtain⟨its,rv,p,hz⟩:=I.list hq;obtain⟨f0,f1,f2,f3,f4,f5⟩:=hf it (by simp);have hl:=rv.length;exact wpAny_pyNext_list_end (I.ok.hd hc) st p.isList (by simp;lia) λ h' eb=>⟨rfl,I.turned (t':=s.toks) (λ b o hb e=>eb b o hb e) f0 f1 f3 f4 f5⟩
 self:=λ _ _ _ _ _ st h=>wpAny_pyIter_listiter st h
theorem Bi {P:Program}{w:World}{K:gG}{tg:Expr}(a it:Addr):Turn P w K tg (Itt K a) [it] it (λ i h=>h.IsTupleIter it a i) where
 mem:=by simp
 obj:=λ i h st b hb=>by
  have e:b=it:=by simpa using hb
  subst e;obtain⟨o,e,c,d⟩:=st;exact⟨o,e,λ v z=>by rw[d]at z;cases z⟩
 keep:=λ i h h' st k=>st.at λ o e=>k it (by simp) o e
 item:=by intro X hP hw hK hc i pins s σ H E I hf st hg;subst hP hw hK;obtain⟨xs,x,hq,hx⟩:=hg;obtain⟨its,rv,p,hz⟩:=I.tuple hq;obtain⟨u,hu,ru⟩:=rv.get hx;obtain⟨f0,f1,f2,f3,f4,f5⟩:=hf it (by simp);refine wpAny_pyNext_tuple_item st (show s.heap.IsTuple a its.toArray from p) (x:=u) (by simpa using hu) λ h' st' sb=>?_;have I1:Inv X pins σ H {s with heap:=h'}:=I.turned (t':=s.toks) (λ b o hb e=>(sb.2 b hb).trans e) f0 f1 f3 f4 f5;obtain⟨o,e,c,d⟩:=id st';exact⟨u,rfl,EE (s:={s with heap:=h'}) e c d (by decide) ⟨x,H,I1,ru,⟨rfl,λ ys hy=>by rw[I.sX hy hq];exact hx⟩,st',λ b hb=>(hf b hb).1⟩⟩
 done:=by intro X hP hw hK hc i pins s σ H E I hf st hg;subst hP hw hK;obtain⟨xs,hq,hx⟩:=hg;obtain⟨its,rv,p,hz⟩:=I.tuple hq;obtain⟨f0,f1,f2,f3,f4,f5⟩:=hf it (by simp);have hl:=rv.length;exact wpAny_pyNext_tuple_end (I.ok.hd hc) st (show s.heap.IsTuple a its.toArray from p) (by simp;lia) λ h' eb=>⟨rfl,I.turned (t':=s.toks) (λ b o hb e=>eb b o hb e) f0 f1 f3 f4 f5⟩
 self:=λ _ _ _ _ _ st h=>wpAny_pyIter_tupleiter st h
theorem Bj {P:Program}{w:World}{K:gG}{tg:Expr}(it:Addr)(lo:Int)(n:Nat):Turn P w K tg (Itr lo n) [it] it (λ i h=>IsRangeIter h it (lo+(i:Nat)*1) ((n:Int)-(i:Nat)) 1) where
 mem:=by simp
 obj:=λ i h st b hb=>by
  have e:b=it:=by simpa using hb
  subst e;exact⟨_,st,λ v z=>by have z':Data.fields _=Data.cell v:=z;cases z'⟩
 keep:=λ i h h' st k=>k it (by simp) _ st
 item:=by intro X hP hw hK hc i pins s σ H E I hf st hg;subst hP hw hK;obtain⟨f0,f1,f2,f3,f4,f5⟩:=hf it (by simp);have W:=Walks.range (prog:=X.prog) (w:=X.w) (I.ok.hd hc) it lo 1 n;refine W.item i s _ _ hg st λ v h' tk hv st' kk=>?_;obtain⟨t,rfl⟩:=hv;have I1:Inv X pins σ H {s with heap:=h',toks:=tk}:=I.turned (λ b o hb e=>kk b o (by simpa using hb) e) f0 f1 f3 f4 f5;refine⟨_,rfl,EE (s:={s with heap:=h',toks:=tk}) (n:="range_iterator") st' rfl rfl (by decide) ⟨.int (lo+i),H,I1,⟨t,?_⟩,⟨rfl,rfl⟩,st',λ b hb=>(hf b hb).1⟩⟩;rw[Int.mul_one]
 done:=by intro X hP hw hK hc i pins s σ H E I hf st hg;subst hP hw hK;obtain⟨f0,f1,f2,f3,f4,f5⟩:=hf it (by simp);exact wpAny_pyNext_range_end (I.ok.hd hc) st (by have:n<=i:=hg;lia) λ h' eb=>⟨rfl,I.turned (t':=s.toks) (λ b o hb e=>eb b o hb e) f0 f1 f3 f4 f5⟩
 self:=λ _ _ _ _ _ st h=>wpAny_pyIter_rangeiter st h
section
variable {X:Cx}{tg:Expr}
def Cr (K:gG)(tl:TE):TI:=λ σ H R=>tl σ H λ x H1=>∃ a,x=.ref a/\(∃ xs,SqL K H1 a xs)/\R (Itl K a) H1
def Pn (K:gG)(tl:TE):TI:=λ σ H R=>tl σ H λ x H1=>∃ a,x=.ref a/\(∃ xs,SqT K H1 a xs)/\R (Itt K a) H1
theorem rq {l:Expr}{tl:TE}(hl:PE X l tl):PI X tg l (Cr X.K tl):=by
 intro pins s σ H R I h;refine thn (hl pins s σ H _ I h) λ v s1 ⟨x,H1,I1,r1,q1⟩=>?_;obtain⟨a,e,⟨xs,hq⟩,q⟩:=q1;subst e;cases r1;obtain⟨its,rv,p,hz⟩:=I1.list hq;refine eO p.isList ?_;refine⟨s1.heap.objs.size,[s1.heap.objs.size],_,_,H1,rfl,I1.kept (t':=s1.toks) λ b o e=>ag _ e,Ds a _,⟨_,aE _ rfl,rfl,rfl⟩,λ b hb=>?_,q⟩;have e:b=s1.heap.objs.size:=by simpa using hb
 subst e;exact I1.Hz (ar _) (I1.hok.fresh (ar _))
theorem EF {l:Expr}{tl:TE}(hl:PE X l tl):PI X tg l (Pn X.K tl):=by
 intro pins s σ H R I h;refine thn (hl pins s σ H _ I h) λ v s1 ⟨x,H1,I1,r1,q1⟩=>?_;obtain⟨a,e,⟨xs,hq⟩,q⟩:=q1;subst e;cases r1;obtain⟨its,rv,p,hz⟩:=I1.tuple hq;refine fE (show s1.heap.IsTuple a its.toArray from p) ?_;refine⟨s1.heap.objs.size,[s1.heap.objs.size],_,_,H1,rfl,I1.kept (t':=s1.toks) λ b o e=>ag _ e,Bi a _,⟨_,aE _ rfl,rfl,rfl⟩,λ b hb=>?_,q⟩;have e:b=s1.heap.objs.size:=by simpa using hb
 subst e;exact I1.Hz (ar _) (I1.hok.fresh (ar _))
theorem zN {pins:gL}{σ:St}{H:Hp}{s:gJ}{R:It->Hp->Prop}{E:gE}{lo hi:Int}{t u v:Tok}{tk:Nat}(I:Inv X pins σ H s)(h1:-(2 ^ 62)<=lo)(h2:lo<2 ^ 62)(h3:-(2 ^ 62)<=hi)(h4:hi<2 ^ 62)
  (q:R (Itr lo (hi-lo).toNat) H):wpAny (model X.prog X.w) X.A (pyIter (.ref s.heap.objs.size)) (PIE X pins σ tg R) E {s with heap:=s.heap.push {cls:=.type "range",data:=.fields #[.int lo t,.int hi u,.int 1 v]},toks:=tk}:=by
 refine wpAny_pyIter_range (IsRange.new ..) (small_one h1 h2 h3 h4) ?_;have I1:Inv X pins σ H {s with heap:=s.heap.push {cls:=.type "range",data:=.fields #[.int lo t,.int hi u,.int 1 v]},toks:=tk}:=I.kept λ b o e=>ag _ e;refine⟨(s.heap.push {cls:=.type "range",data:=.fields #[.int lo t,.int hi u,.int 1 v]}).objs.size,[(s.heap.push {cls:=.type "range",data:=.fields #[.int lo t,.int hi u,.int 1 v]}).objs.size],_,_,H,rfl,
  I1.kept (t':=tk) λ b o e=>ag _ e,Bj _ lo (hi-lo).toNat,?_,λ b hb=>?_,q⟩
 ·have e1:lo+((0:Nat):Int)*1=lo:=by simp
  have e2:(((hi-lo).toNat:Nat):Int)-((0:Nat):Int)=Builtin.Range.rangeSize lo hi 1:=by rw[rangeSize_one];split<;>lia
  show IsRangeIter _ _ (lo+((0:Nat):Int)*1) ((((hi-lo).toNat:Nat):Int)-((0:Nat):Int)) 1;rw[e1,e2];exact aE _ rfl
 ·have e:b=(s.heap.push {cls:=.type "range",data:=.fields #[.int lo t,.int hi u,.int 1 v]}).objs.size:=by simpa using hb
  subst e;exact I1.Hz (ar _) (I1.hok.fresh (ar _))
def u_ (ta:TA):TI:=λ σ H R=>ta σ H λ vs H1=>∃ j:Int,vs=[.int j]/\-(2 ^ 62)<=j/\j<2 ^ 62/\R (Itr 0 j.toNat) H1
def JT (ta:TA):TI:=λ σ H R=>ta σ H λ vs H1=>∃ i j:Int,vs=[.int i,.int j]/\(-(2 ^ 62)<=i/\i<2 ^ 62/\-(2 ^ 62)<=j/\j<2 ^ 62)/\R (Itr i (j-i).toNat) H1
theorem lN {a:Expr}{ta:TA}{p pos:Pos}(hg:Gl X "range")(hm:X.mg "range"=Rl)(ha:PA X [a] ta)(hs:starEach [a] X.env=[(Rn,eval a X.env)]:=by rfl):PI X tg (.Call (.Name "range" p) [a] [] pos) (u_ ta):=by
 intro pins s σ H R I h;refine Call_ (sW I hg hm boot_range (cR (thn (ha pos pins s σ H _ I h) λ us s1 ⟨vs,H1,I1,r1,q1⟩=>?_) hs rfl));obtain⟨j,e,q1,q2,q⟩:=q1;subst e;cases r1 with
 | cons r rr =>cases rr;obtain⟨t,rfl⟩:=r;exact call_range_1 (zN I1 (by lia) (by lia) q1 q2 (by simpa using q))
theorem xC {a b:Expr}{ta:TA}{p pos:Pos}(hg:Gl X "range")(hm:X.mg "range"=Rl)(ha:PA X [a,b] ta)(hs:starEach [a,b] X.env=[(Rn,eval a X.env),(Rn,eval b X.env)]:=by rfl)(hs2:starEach [b] X.env=[(Rn,eval b X.env)]:=by rfl) :
  PI X tg (.Call (.Name "range" p) [a,b] [] pos) (JT ta):=by
 intro pins s σ H R I h;refine Call_ (sW I hg hm boot_range (cR (thn (ha pos pins s σ H _ I h) λ us s1 ⟨vs,H1,I1,r1,q1⟩=>?_) (by rw[hs,hs2]) (by rw[hs2];rfl)));obtain⟨i,j,e,⟨q1,q2,q3,q4⟩,q⟩:=q1;subst e;cases r1 with
 | cons r rr =>
  cases rr with
  | cons r' rr =>cases rr;obtain⟨t,rfl⟩:=r;obtain⟨t',rfl⟩:=r';exact call_range_2 (zN I1 q1 q2 q3 q4 q)
def w6 (wi:TI)(g:TG)(tb:TS):TS:=λ D σ H=>wi σ H λ J H1=>∃ W:Nat->Nat->St->Hp->Prop,(∃ m,W 0 m σ H1)/\∀ i m σ H,W i m σ H ->
 (J.stop i H/\D.nx σ H)\/(J.go i H/\∃ N:St->Hp->Prop,(∀ σ' H',N σ' H'->∃ m',m'<m/\W (i+1) m' σ' H')/\∀ x H',J.yld i H x H'->g x σ H' λ σ2 H2=>tb {D with nx:=N,ct:=N,bk:=D.nx} σ2 H2)
def sY (fp:List Addr)(h:Heap):gL:=fp.filterMap λ b=>(h.get? b).map λ o=>(b,o)
theorem n_ {fp:List Addr}{h:Heap}{b:Addr}{o:Obj}(hb:b∈fp)(e:h.get? b=My o):(b,o)∈sY fp h:=cU.mpr ⟨b,hb,by rw[e];rfl⟩
theorem Du {fp:List Addr}{h:Heap}{p:Addr×Obj}(hp:p∈sY fp h):p.1∈fp/\h.get? p.1=My p.2:=by
 obtain⟨b,hb,e⟩:=cU.mp hp;cases q:h.get? b with
 | none=>rw[q]at e;cases e
 | some o =>rw[q]at e;have e':(b,o)=p:=ak e;subst e';exact⟨hb,q⟩
theorem Inv.pinned {pins:gL}{σ:St}{H:Hp}{s:gJ}{fp:List Addr}(I:Inv X pins σ H s)(hf:∀ b∈fp,ux X pins H b)(ho:∀ b∈fp,∃ o,s.heap.get? b=My o/\∀ v,o.data≠.cell v):Inv X (pins++sY fp s.heap) σ H s :=
 I.uJ λ p hp=>(aM.mp hp).elim (λ z=>I.pin p (aT _ z)) λ z=>by obtain⟨hb,e⟩:=Du z;obtain⟨f0,f1,f2,_⟩:=hf p.1 hb;obtain⟨o,e',d⟩:=ho p.1 hb;rw[e]at e';cases e';exact⟨e,f0,f1,f2,d⟩
theorem Inv.va {pins pl:gL}{σ:St}{H:Hp}{s:gJ}(I:Inv X (pins++pl) σ H s):Inv X pins σ H s:=I.uJ λ p hp=>I.pin p (aT _ (bc _ hp))
theorem mQ {iter:Expr}{body:List Stmt}{wi:TI}{g:TG}{tb:TS}{pos:Pos}(hp:PassesOwn (model X.prog X.w) X.A X.env X.xe)(hc:X.calm=Rm)(hi:PI X tg iter wi)(hg:PG X tg g)(hb:PSs X body tb)
  (hs:∀ x,foldedSetIterable iter X.env x=pure x:=by intro _;rfl):PS X (.For tg iter body [] pos) (w6 wi g tb):=by
 intro pins s σ H D I h;refine wpAny_For (thn (hi pins s σ H _ I h) λ v s1 h1=>thn h1 λ itv s2 h2=>?_) hs;obtain⟨it,fp,tn,J,H2,e,I2,T,st2,f2,W,⟨m0,w0⟩,turn⟩:=h2;subst e;have stat:∀ {H':Hp},(∀ b∈fp,H' b=Rl)->∀ b∈fp,ux X pins H' b:=λ hn b hb=>⟨hn b hb,(f2 b hb).2⟩;refine codeAny_forLoop_any (λ n s'=>∃ i σ' H',Inv X pins σ' H' s'/\tn i s'.heap/\(∀ b∈fp,H' b=Rl)/\W i n σ' H') ?_ m0 ⟨0,σ,H2,I2,st2,λ b hb=>(f2 b hb).1,w0⟩;rintro n s3 ⟨i,σ3,H3,I3,st3,fr3,w3⟩;rcases turn i n σ3 H3 w3 with⟨stop,qn⟩ | ⟨go,N,hN,step⟩
 ·refine da hp (thn (T.done X rfl rfl rfl hc i pins s3 σ3 H3 X.xe I3 (stat fr3) st3 stop) λ r s4 ⟨hr,I4⟩=>?_);subst hr;exact fx ⟨σ3,H3,I4,qn⟩
 ·refine da hp (thn (T.item X rfl rfl rfl hc i pins s3 σ3 H3 X.xe I3 (stat fr3) st3 go) λ r s4 ⟨u,hr,h4⟩=>?_)
  subst hr;refine da hp (thn h4 λ _ s5 ⟨x,H5,I5,r5,y5,st5,fr5⟩=>?_);have I5':=I5.pinned (stat fr5) (T.obj _ _ st5);refine da hp (thn (hg _ s5 σ3 H5 x u _ I5' r5 (step x H5 y5)) λ _ s6 ⟨σ6,H6,I6,q6⟩=>?_);refine da hp (thn (hb _ s6 σ6 H6 _ I6 q6) λ f s7 q7=>?_);have again:∀ {σ7:St} {H7:Hp},Inv X (pins++sY fp s5.heap) σ7 H7 s7->N σ7 H7->∃ m,m<n/\∃ i σ' H',Inv X pins σ' H' s7/\tn i s7.heap/\(∀ b∈fp,H' b=Rl)/\W i m σ' H':=λ{σ7 H7} I7 n7=>by obtain⟨m',hm,w7⟩:=hN σ7 H7 n7;refine⟨m',hm,i+1,σ7,H7,I7.va,T.keep _ _ _ st5 λ b hb o e=>(I7.pin (b,o) (aT _ (aT _ (n_ hb e)))).1,λ b hb=>?_,w7⟩;obtain⟨o,e,d⟩:=T.obj _ _ st5 b hb;exact(I7.pin (b,o) (aT _ (aT _ (n_ hb e)))).2.1
  cases f with
  | next=>obtain⟨σ7,H7,I7,n7⟩:=q7;exact again I7 n7
  | cont=>obtain⟨σ7,H7,I7,n7⟩:=q7;exact again I7 n7
  | brk=>obtain⟨σ7,H7,I7,q7⟩:=q7;exact⟨σ7,H7,I7.va,q7⟩
  | ret v=>obtain⟨x7,σ7,H7,I7,r7,q7⟩:=q7;exact⟨x7,σ7,H7,I7.va,r7,q7⟩
end
theorem zO {K:gG}{a:Addr}{xs:List V}{g:TG}{tb:TS}{D:Ends}{σ:St}{H:Hp}(Pv:Nat->St->Hp->Prop)(h0:Pv 0 σ H)(hl:∀ i σ H,i<=xs.length->Pv i σ H->SqL K H a xs)
  (hs:∀ i x σ H,xs[i]?=My x->Pv i σ H->g x σ H λ σ2 H2=>tb {D with nx:=Pv (i+1),ct:=Pv (i+1),bk:=D.nx} σ2 H2) (hd:∀ σ H,Pv xs.length σ H->D.nx σ H) :
  ∃ W:Nat->Nat->St->Hp->Prop,(∃ m,W 0 m σ H)/\∀ i m σ H,W i m σ H ->
   ((Itl K a).stop i H/\D.nx σ H)\/((Itl K a).go i H/\∃ N:St->Hp->Prop,(∀ σ' H',N σ' H'->∃ m',m'<m/\W (i+1) m' σ' H')/\∀ x H',(Itl K a).yld i H x H'->g x σ H' λ σ2 H2=>tb {D with nx:=N,ct:=N,bk:=D.nx} σ2 H2):=by
 refine⟨λ i m σ H=>m=xs.length-i/\i<=xs.length/\Pv i σ H,⟨xs.length,by simp,aQ _,h0⟩,?_⟩;rintro i m σ H ⟨rfl,hi,p⟩;have q:=hl i σ H hi p;by_cases hlt:i<xs.length
 ·refine .inr ⟨⟨xs,xs[i],q,by simp[hlt]⟩,Pv (i+1),λ σ' H' p'=>⟨xs.length-(i+1),by lia,rfl,hlt,p'⟩,λ x H' y=>?_⟩;obtain⟨e,y⟩:=y;subst e;exact hs i x σ _ (y xs q) p
 ·have e:i=xs.length:=by lia
  subst e;exact .inl ⟨⟨xs,q,ar _⟩,hd σ H p⟩
theorem mK {lo:Int}{n:Nat}{g:TG}{tb:TS}{D:Ends}{σ:St}{H:Hp}(Pv:Nat->St->Hp->Prop)(h0:Pv 0 σ H)
  (hs:∀ i σ H,i<n->Pv i σ H->g (.int (lo+i)) σ H λ σ2 H2=>tb {D with nx:=Pv (i+1),ct:=Pv (i+1),bk:=D.nx} σ2 H2) (hd:∀ σ H,Pv n σ H->D.nx σ H) :
  ∃ W:Nat->Nat->St->Hp->Prop,(∃ m,W 0 m σ H)/\∀ i m σ H,W i m σ H ->
   ((Itr lo n).stop i H/\D.nx σ H)\/((Itr lo n).go i H/\∃ N:St->Hp->Prop,(∀ σ' H',N σ' H'->∃ m',m'<m/\W (i+1) m' σ' H')/\∀ x H',(Itr lo n).yld i H x H'->g x σ H' λ σ2 H2=>tb {D with nx:=N,ct:=N,bk:=D.nx} σ2 H2):=by
 refine⟨λ i m σ H=>m=n-i/\i<=n/\Pv i σ H,⟨n,by simp,aQ _,h0⟩,?_⟩;rintro i m σ H ⟨rfl,hi,p⟩;by_cases hlt:i<n
 ·refine .inr ⟨hlt,Pv (i+1),λ σ' H' p'=>⟨n-(i+1),by lia,rfl,hlt,p'⟩,λ x H' y=>?_⟩;obtain⟨e,y⟩:=y;subst e y;exact hs i σ _ hlt p
 ·have e:i=n:=by lia
  subst e;exact .inl ⟨ar _,hd σ H p⟩
abbrev R2:=V->V->Hp->VK->Prop
def OpR (X:Cx)(f:gH->gH->Sem gH)(r:R2):Prop :=
 ∀ (pins:gL) (s:gJ) (σ:St) (H:Hp) (x y:V) (v u:gH) (Q:VK),Inv X pins σ H s->RelV x v->RelV y u->r x y H Q ->
  wpAny (model X.prog X.w) X.A (f v u) (EP X pins σ Q) X.xe s
def UnR (X:Cx)(f:gH->Sem gH)(r:V->Hp->VK->Prop):Prop :=
 ∀ (pins:gL) (s:gJ) (σ:St) (H:Hp) (x:V) (v:gH) (Q:VK),Inv X pins σ H s->RelV x v->r x H Q ->
  wpAny (model X.prog X.w) X.A (f v) (EP X pins σ Q) X.xe s
def jq (X:Cx)(f:gH)(r:List V->Hp->VK->Prop):Prop :=
 ∀ (pins:gL) (s:gJ) (σ:St) (H:Hp) (xs:List V) (us:List gH) (Q:VK),Inv X pins σ H s->Vals xs us->r xs H Q ->
  wpAny (model X.prog X.w) X.A (call f us) (EP X pins σ Q) X.xe s
def Po (X:Cx)(r:V->Hp->(Bool->Hp->Prop)->Prop):Prop :=
 ∀ (pins:gL) (s:gJ) (σ:St) (H:Hp) (x:V) (v:gH) (Q:Bool->Hp->Prop),Inv X pins σ H s->RelV x v->r x H Q ->
  wpAny (model X.prog X.w) X.A (truthy v) (TP X pins σ Q) X.xe s
def tOp (r:R2)(ta tb:TE):TE:=λ σ H Q=>ta σ H λ x H1=>tb σ H1 λ y H2=>r x y H2 Q
def tUn (r:V->Hp->VK->Prop)(ta:TE):TE:=λ σ H Q=>ta σ H λ x H1=>r x H1 Q
def rI (C:Int->Int->Prop)(g:Int->Int->V):R2:=λ x y H Q=>∃ i j,x=.int i/\y=.int j/\C i j/\Q (g i j) H
def rI0 (g:Int->Int->V):R2:=λ x y H Q=>∃ i j,x=.int i/\y=.int j/\Q (g i j) H
def rU (g:Int->V):V->Hp->VK->Prop:=λ x H Q=>∃ i,x=.int i/\Q (g i) H
section
variable {X:Cx}{a b c:Expr}{ta tb tc:TE}{pos:Pos}
theorem KZ (ha:PE X a ta)(hb:PE X b tb){pins:gL}{s:gJ}{σ:St}{H:Hp}{R:V->V->Hp->Prop}(I:Inv X pins σ H s)
  (h:ta σ H λ x H1=>tb σ H1 λ y H2=>R x y H2) {Q:gE} {f:gH->gH->Sem gH}
  (hf:∀ v u s2 x y H2,Inv X pins σ H2 s2->RelV x v->RelV y u->R x y H2->wpAny (model X.prog X.w) X.A (f v u) Q X.xe s2) :
  wpAny (model X.prog X.w) X.A (eval a X.env) (λ v s₁=>wpAny (model X.prog X.w) X.A (eval b X.env) (λ u s₂=>wpAny (model X.prog X.w) X.A (f v u) Q X.xe s₂) X.xe s₁) X.xe s:=by
 refine thn (ha pins s σ H _ I h) λ v s1 ⟨x,H1,I1,r1,q1⟩=>?_;refine thn (hb pins s1 σ H1 _ I1 q1) λ u s2 ⟨y,H2,I2,r2,q2⟩=>?_;exact hf v u s2 x y H2 I2 r1 r2 q2
theorem jv {op:Operator}{r:R2}(ho:OpR X (binaryOp op) r)(ha:PE X a ta)(hb:PE X b tb):PE X (.BinOp a op b pos) (tOp r ta tb):=by intro pins s σ H Q I h;exact wpAny_BinOp (KZ ha hb I h λ v u s2 x y H2 I2 rx ry q=>ho pins s2 σ H2 x y v u Q I2 rx ry q)
theorem EG {op:UnaryOp}{r:V->Hp->VK->Prop}(ho:UnR X (unaryOp op) r)(ha:PE X a ta):PE X (.UnaryOp op a pos) (tUn r ta):=by intro pins s σ H Q I h;exact UnaryOp_ (thn (ha pins s σ H _ I h) λ v s1 ⟨x,H1,I1,r1,q1⟩=>ho pins s1 σ H1 x v Q I1 r1 q1)
theorem opI {f:gH->gH->Sem gH}{C:Int->Int->Prop}{g:Int->Int->Int}
  (rule:∀ (i j:Int) (t u:Tok) (s:gJ) (Q:gE) (E:gE),C i j->Q (.int (g i j) s.toks) {s with toks:=s.toks+1}->wpAny (model X.prog X.w) X.A (f (.int i t) (.int j u)) Q E s) :
  OpR X f (rI C λ i j=>.int (g i j)):=by
 intro pins s σ H x y v u Q I rx ry h;obtain⟨i,j,rfl,rfl,hc,q⟩:=h;obtain⟨t,rfl⟩:=rx;obtain⟨t',rfl⟩:=ry;exact rule i j t t' s _ _ hc ⟨.int (g i j),H,I.tok _,⟨_,rfl⟩,q⟩
theorem M_ {f:gH->gH->Sem gH}{g:Int->Int->Int}
  (rule:∀ (i j:Int) (t u:Tok) (s:gJ) (Q:gE) (E:gE),Q (.int (g i j) s.toks) {s with toks:=s.toks+1}->wpAny (model X.prog X.w) X.A (f (.int i t) (.int j u)) Q E s) :
  OpR X f (rI0 λ i j=>.int (g i j)):=by
 intro pins s σ H x y v u Q I rx ry h;obtain⟨i,j,rfl,rfl,q⟩:=h;obtain⟨t,rfl⟩:=rx;obtain⟨t',rfl⟩:=ry;exact rule i j t t' s _ _ ⟨.int (g i j),H,I.tok _,⟨_,rfl⟩,q⟩
theorem K0 {f:gH->gH->Sem gH}{g:Int->Int->Bool}
  (rule:∀ (i j:Int) (t u:Tok) (s:gJ) (Q:gE) (E:gE),Q (.bool (g i j)) s->wpAny (model X.prog X.w) X.A (f (.int i t) (.int j u)) Q E s) :
  OpR X f (rI0 λ i j=>.bl (g i j)):=by
 intro pins s σ H x y v u Q I rx ry h;obtain⟨i,j,rfl,rfl,q⟩:=h;obtain⟨t,rfl⟩:=rx;obtain⟨t',rfl⟩:=ry;exact rule i j t t' s _ _ ⟨.bl (g i j),H,I,rfl,q⟩
def Pp (i j:Int):Prop:=0<j/\j<1073741824
def K1 (i j:Int):Prop:=0<=j/\j<=1000000/\i.natAbs<2 ^ 64
def HA (i j:Int):Prop:=(-(2 ^ 64)<i/\i<2 ^ 64)\/(-(2 ^ 64)<j/\j<2 ^ 64)
theorem HA.ok {i j:Int}(h:HA i j):IntMulOk i j:=by
 rcases h with⟨h1,h2⟩ | ⟨h1,h2⟩
 ·exact .of_left (intBits_le_64 h1 h2)
 ·exact .of_right (intBits_le_64 h1 h2)
theorem pD:OpR X (binaryOp .Add) (rI0 λ i j=>.int (i+j)):=M_ λ _ _ _ _ _ _ _ q=>add_int q
theorem yt:OpR X (binaryOp .Sub) (rI0 λ i j=>.int (i-j)):=M_ λ _ _ _ _ _ _ _ q=>sub_int q
theorem sZ:OpR X (binaryOp .Mult) (rI HA λ i j=>.int (i*j)):=opI λ _ _ _ _ _ _ _ hc q=>mul_int q hc.ok
theorem HB:OpR X (binaryOp .FloorDiv) (rI Pp λ i j=>.int (i / j)):=opI λ i j _ _ _ _ _ hc q=>by have h1:(0:Int)<j:=hc.1;have h2:j<1073741824:=hc.2;exact floordiv_int (by lia) (by rw[Int.fdiv_eq_ediv_of_nonneg i (by lia)];exact q) (.inl (PyProof.noPylong_small (by lia)))
theorem yu:OpR X (binaryOp .Mod) (rI (λ _ j=>0<j) λ i j=>.int (i % j)):=opI λ i j _ _ _ _ _ hc q=>by have h1:(0:Int)<j:=hc;exact mod_int' (by lia) (by rw[Int.fmod_eq_emod_of_nonneg i (by lia)];exact q)
theorem yv:OpR X (binaryOp .Pow) (rI K1 λ i j=>.int (i ^ j.toNat)):=opI λ _ _ _ _ _ _ _ hc q=>pow_int_small hc.1 hc.2.1 hc.2.2 q
theorem unI {f:gH->Sem gH}{g:Int->Int}
  (rule:∀ (i:Int) (t:Tok) (s:gJ) (Q:gE) (E:gE),Q (.int (g i) s.toks) {s with toks:=s.toks+1}->wpAny (model X.prog X.w) X.A (f (.int i t)) Q E s) :
  UnR X f (rU λ i=>.int (g i)):=by
 intro pins s σ H x v Q I rx h;obtain⟨i,rfl,q⟩:=h;obtain⟨t,rfl⟩:=rx;exact rule i t s _ _ ⟨.int (g i),H,I.tok _,⟨_,rfl⟩,q⟩
theorem Bk:UnR X (unaryOp .USub) (rU λ i=>.int (-i)):=unI λ _ _ _ _ _ q=>neg_int q
end
def K2:V->V->Bool
 | .non,.non=>Rm | .non,.int _=>Rm | .int _,.non=>Rm | .non,.bl _=>Rm | .bl _,.non=>Rm | .non,.str _=>Rm | .str _,.non=>Rm
 | .int _,.int _=>Rm | .bl _,.bl _=>Rm | .str _,.str _=>Rm | .byt _,.byt _=>Rm
 | .int _,.str _=>Rm | .str _,.int _=>Rm | .bl _,.str _=>Rm | .str _,.bl _=>Rm
 | _,_=>Rn
def rEq:R2:=λ x y H Q=>K2 x y=Rm/\Q (.bl (decide (x=y))) H
def rNe:R2:=λ x y H Q=>K2 x y=Rm/\Q (.bl (!decide (x=y))) H
theorem yw {i j:Int}:decide (V.int i=V.int j)=(i==j):=by rw[bC];simp
theorem Bl {i j:Bool}:decide (V.bl i=V.bl j)=(i==j):=by rw[bC];simp
theorem yy {i j:Str}:decide (V.str i=V.str j)=(i==j):=by rw[bC];simp
theorem Cs {i j:Array UInt8}:decide (V.byt i=V.byt j)=(i.toList==j.toList):=by rw[bC];cases i;cases j;simp
section
variable {X:Cx}{a b c:Expr}{ta tb tc:TE}{pos:Pos}
theorem ja {pins:gL}{σ:St}{H:Hp}{s:gJ}{Q:VK}{k k':Bool}(I:Inv X pins σ H s)(q:Q (.bl k) H)(e:k=k'):EP X pins σ Q (.bool k') s:=by subst e;exact⟨.bl k,H,I,rfl,q⟩
theorem JU:OpR X (compareOp .Eq) rEq:=by
 intro pins s σ H x y v u Q I rx ry h;obtain⟨hs,q⟩:=h;cases x with
 | non =>
  cases rx;cases y with
  | non=>cases ry;exact PySem.EqNone.eq_none_none (ja I q (by simp))
  | bl j=>cases ry;exact PySem.EqNone.eq_none_bool (ja I q (by simp))
  | int j=>obtain⟨t',rfl⟩:=ry;exact PySem.EqNone.eq_none_int (ja I q (by simp))
  | str j=>obtain⟨t',rfl⟩:=ry;exact PySem.EqNone.eq_none_str (ja I q (by simp))
  | _=>exact absurd (show Rn=Rm from hs) au
 | bl i =>
  cases rx;cases y with
  | non=>cases ry;exact PySem.EqNone.eq_bool_none (ja I q (by simp))
  | bl j=>cases ry;exact eq_bool (ja I q Bl)
  | str j=>obtain⟨t',rfl⟩:=ry;exact PySem.EqMixed.eq_bool_str (ja I q (by simp))
  | _=>exact absurd (show Rn=Rm from hs) au
 | int i =>
  obtain⟨t,rfl⟩:=rx;cases y with
  | non=>cases ry;exact PySem.EqNone.eq_int_none (ja I q (by simp))
  | int j=>obtain⟨t',rfl⟩:=ry;exact eq_int (ja I q yw)
  | str j=>obtain⟨t',rfl⟩:=ry;exact PySem.EqMixed.eq_int_str (ja I q (by simp))
  | _=>exact absurd (show Rn=Rm from hs) au
 | str i =>
  obtain⟨t,rfl⟩:=rx;cases y with
  | non=>cases ry;exact PySem.EqNone.eq_str_none (ja I q (by simp))
  | bl j=>cases ry;exact PySem.EqMixed.eq_str_bool (ja I q (by simp))
  | int j=>obtain⟨t',rfl⟩:=ry;exact PySem.EqMixed.eq_str_int (ja I q (by simp))
  | str j=>obtain⟨t',rfl⟩:=ry;exact eq_str (ja I q yy)
  | _=>exact absurd (show Rn=Rm from hs) au
 | byt i =>
  obtain⟨t,rfl⟩:=rx;cases y with
  | byt j=>obtain⟨t',rfl⟩:=ry;exact PySem.W.eq_bytes (ja I q Cs)
  | _=>exact absurd (show Rn=Rm from hs) au
 | _=>cases y<;>exact absurd (show Rn=Rm from hs) au
theorem JV:OpR X (compareOp .NotEq) rNe:=by
 intro pins s σ H x y v u Q I rx ry h;obtain⟨hs,q⟩:=h;cases x with
 | non =>
  cases rx;cases y with
  | non=>cases ry;exact PySem.EqNone.ne_none_none (ja I q (by simp))
  | bl j=>cases ry;exact PySem.EqNone.ne_none_bool (ja I q (by simp))
  | int j=>obtain⟨t',rfl⟩:=ry;exact PySem.EqNone.ne_none_int (ja I q (by simp))
  | str j=>obtain⟨t',rfl⟩:=ry;exact PySem.EqNone.ne_none_str (ja I q (by simp))
  | _=>exact absurd (show Rn=Rm from hs) au
 | bl i =>
  cases rx;cases y with
  | non=>cases ry;exact PySem.EqNone.ne_bool_none (ja I q (by simp))
  | bl j=>cases ry;exact ne_bool (ja I q (cK not Bl))
  | str j=>obtain⟨t',rfl⟩:=ry;exact PySem.EqMixed.ne_bool_str (ja I q (by simp))
  | _=>exact absurd (show Rn=Rm from hs) au
 | int i =>
  obtain⟨t,rfl⟩:=rx;cases y with
  | non=>cases ry;exact PySem.EqNone.ne_int_none (ja I q (by simp))
  | int j=>obtain⟨t',rfl⟩:=ry;exact ne_int (ja I q (cK not yw))
  | str j=>obtain⟨t',rfl⟩:=ry;exact PySem.EqMixed.ne_int_str (ja I q (by simp))
  | _=>exact absurd (show Rn=Rm from hs) au
 | str i =>
  obtain⟨t,rfl⟩:=rx;cases y with
  | non=>cases ry;exact PySem.EqNone.ne_str_none (ja I q (by simp))
  | bl j=>cases ry;exact PySem.EqMixed.ne_str_bool (ja I q (by simp))
  | int j=>obtain⟨t',rfl⟩:=ry;exact PySem.EqMixed.ne_str_int (ja I q (by simp))
  | str j=>obtain⟨t',rfl⟩:=ry;exact ne_str (ja I q (cK not yy))
  | _=>exact absurd (show Rn=Rm from hs) au
 | byt i =>
  obtain⟨t,rfl⟩:=rx;cases y with
  | byt j=>obtain⟨t',rfl⟩:=ry;exact PySem.W.ne_bytes (ja I q (cK not Cs))
  | _=>exact absurd (show Rn=Rm from hs) au
 | _=>cases y<;>exact absurd (show Rn=Rm from hs) au
theorem JW:OpR X (compareOp .Lt) (rI0 λ i j=>.bl (decide (i<j))):=K0 λ _ _ _ _ _ _ _ q=>lt_int q
theorem Na:OpR X (compareOp .LtE) (rI0 λ i j=>.bl (decide (i<=j))):=K0 λ _ _ _ _ _ _ _ q=>le_int q
theorem Nb:OpR X (compareOp .GtE) (rI0 λ i j=>.bl (decide (j<=i))):=K0 λ _ _ _ _ _ _ _ q=>ge_int q
theorem K4:OpR X (compareOp .Is) (λ x y H Q=>y=.non/\Q (.bl (decide (x=.non))) H):=by
 intro pins s σ H x y v u Q I rx ry h;obtain⟨rfl,q⟩:=h;cases ry;refine is_none_gen (ja I q ?_);cases x<;>first
  | (cases rx;rfl)
  | (obtain⟨t,rfl⟩:=rx;rfl)
theorem s_ (b:Expr){op:CmpOp}(h:op≠.In:=by decide)(h2:op≠.NotIn:=by decide):behindInMarks op b=Rn:=by
 have e1:(op==CmpOp.In)=Rn:=by cases op<;>first | rfl | exact absurd rfl h
 have e2:(op==CmpOp.NotIn)=Rn:=by cases op<;>first | rfl | exact absurd rfl h2
 cases b<;>simp[behindInMarks,e1,e2]
theorem HC {op:CmpOp}{r:R2}(ho:OpR X (compareOp op) r)(ha:PE X a ta)(hb:PE X b tb)(hm:behindInMarks op b=Rn):PE X (.Compare a [op] [b] pos) (tOp r ta tb):=by intro pins s σ H Q I h;exact wpAny_Compare1 (KZ ha hb I h λ v u s2 x y H2 I2 rx ry q=>ho pins s2 σ H2 x y v u Q I2 rx ry q) hm
def zP (t:TE):TT:=λ σ H Q=>t σ H λ x H'=>∃ k,x=.bl k/\Q k H'
theorem rz {op:CmpOp}{r:R2}(ho:OpR X (compareOp op) r)(ha:PE X a ta)(hb:PE X b tb)(hm:behindInMarks op b=Rn):PT X (.Compare a [op] [b] pos) (zP (tOp r ta tb)):=by
 intro pins s σ H Q I h;refine wpAny_isTrue_Compare1 (thn (ha pins s σ H _ I h) λ v s1 ⟨x,H1,I1,r1,q1⟩=>thn (hb pins s1 σ H1 _ I1 q1) λ u s2 ⟨y,H2,I2,r2,q2⟩ =>thn (ho pins s2 σ H2 x y v u _ I2 r1 r2 q2) λ c s3 ⟨z,H3,I3,r3,k,e,q3⟩=>?_) hm
 subst e;cases r3;exact bQ ⟨H3,I3,q3⟩
def Bm (r r':R2)(ta tb tc:TE):TE:=λ σ H Q=>ta σ H λ x H1=>tb σ H1 λ y H2=>r x y H2 λ z H3=>∃ k,z=.bl k /\
 (if k=Rm then tc σ H3 λ w' H4=>r' y w' H4 Q else Q (.bl Rn) H3)
theorem EH {op op':CmpOp}{r r':R2}(ho:OpR X (compareOp op) r)(ho':OpR X (compareOp op') r')(ha:PE X a ta)(hb:PE X b tb)(hc:PE X c tc)
  (hm:lastMarks [op,op'] [b,c]=Rn:=by with_unfolding_all rfl):PE X (.Compare a [op,op'] [b,c] pos) (Bm r r' ta tb tc):=by
 intro pins s σ H Q I h;refine Compare_chain (thn (ha pins s σ H _ I h) λ v s1 ⟨x,H1,I1,r1,q1⟩=>chain_link (thn (hb pins s1 σ H1 _ I1 q1) λ u s2 ⟨y,H2,I2,r2,q2⟩ =>thn (ho pins s2 σ H2 x y v u _ I2 r1 r2 q2) λ d s3 ⟨z,H3,I3,r3,k,e,q3⟩=>?_)) hm
 subst e;cases r3;refine bQ ?_;cases k with
 | false=>exact ite_ff ⟨.bl Rn,H3,I3,rfl,q3⟩
 | true=>exact ite_tt (chain_last (thn (hc pins s3 σ H3 _ I3 q3) λ w' s4 ⟨z',H4,I4,r4,q4⟩=>ho' pins s4 σ H4 y z' u w' Q I4 r2 r4 q4))
theorem EI {op op':CmpOp}{r r':R2}(ho:OpR X (compareOp op) r)(ho':OpR X (compareOp op') r')(ha:PE X a ta)(hb:PE X b tb)(hc:PE X c tc)
  (hm:lastMarks [op,op'] [b,c]=Rn:=by with_unfolding_all rfl):PT X (.Compare a [op,op'] [b,c] pos) (zP (Bm r r' ta tb tc)):=by
 intro pins s σ H Q I h;refine isTrue_chain (thn (ha pins s σ H _ I h) λ v s1 ⟨x,H1,I1,r1,q1⟩=>test_link (thn (hb pins s1 σ H1 _ I1 q1) λ u s2 ⟨y,H2,I2,r2,q2⟩ =>thn (ho pins s2 σ H2 x y v u _ I2 r1 r2 q2) λ d s3 ⟨z,H3,I3,r3,k,e,q3⟩=>?_)) hm
 subst e;cases r3;refine bQ ?_;cases k with
 | false =>obtain⟨k',e',q'⟩:=q3;cases e';exact ite_ff ⟨H3,I3,q'⟩
 | true =>refine ite_tt (test_last (thn (hc pins s3 σ H3 _ I3 q3) λ w' s4 ⟨z',H4,I4,r4,q4⟩=>thn (ho' pins s4 σ H4 y z' u w' _ I4 r2 r4 q4) λ d' s5 ⟨z2,H5,I5,r5,k2,e2,q5⟩=>?_));subst e2;cases r5;exact bQ ⟨H5,I5,q5⟩
def HD (K:gG)(x:V)(H:Hp)(k:Bool):Prop :=
 match x with
 | .non=>k=Rn
 | .bl b=>k=b
 | .int i=>k=(i != 0)
 | .str y=>y.length<=sizeLine/\k=((y.length:Int) != 0)
 | .byt y=>y.size<=sizeLine/\k=((y.size:Int) != 0)
 | .ref p=>(∃ xs,SqL K H p xs/\k=!xs.isEmpty)\/(∃ xs,SqT K H p xs/\k=!xs.isEmpty)\/∃ kvs,H p=My (.dK kvs)/\k=!kvs.isEmpty
 | _=>False
theorem Bn {κ:Type}{kvs:List (κ×V)}{vs:List (κ×gH)}(r:KV kvs vs):(!vs.isEmpty)=!kvs.isEmpty:=by cases r<;>rfl
theorem vb {xs:List V}{its:List gH}(r:Vals xs its):(!its.toArray.isEmpty)=!xs.isEmpty:=by cases r<;>simp
theorem qL:(sizeLine:Nat)<2 ^ 63:=by rw[sizeLine_eq];decide
theorem K8:Po X (λ x H Q=>∃ k,HD X.K x H k/\Q k H):=by
 intro pins s σ H x v Q I rx h;obtain⟨k,e,q⟩:=h;have hl:=qL;have hs:sizeLine=16777216:=sizeLine_eq;cases x with
 | non =>cases rx;have e':k=Rn:=e;subst e';exact truthy_none ⟨H,I,q⟩
 | bl b =>cases rx;have e':k=b:=e;subst e';exact bQ ⟨H,I,q⟩
 | int i =>obtain⟨t,rfl⟩:=rx;have e':k=(i != 0):=e;subst e';exact PySem.P.truthy_int ⟨H,I,q⟩
 | str y =>obtain⟨t,rfl⟩:=rx;obtain⟨hy,e'⟩:y.length<=sizeLine/\k=((y.length:Int) != 0):=e;subst e';exact PySem.P.truthy_str (by lia) ⟨H,I.tok _,q⟩
 | byt y =>obtain⟨t,rfl⟩:=rx;obtain⟨hy,e'⟩:y.size<=sizeLine/\k=((y.size:Int) != 0):=e;subst e';exact PySem.W.truthy_bytes (by lia) ⟨H,I.tok _,q⟩
 | ref p =>
  cases rx;have e':(∃ xs,SqL X.K H p xs/\k=!xs.isEmpty)\/(∃ xs,SqT X.K H p xs/\k=!xs.isEmpty)\/∃ kvs,H p=My (.dK kvs)/\k=!kvs.isEmpty:=e;rcases e' with⟨xs,hx,e'⟩ | ⟨xs,hx,e'⟩ | ⟨kvs,hx,e'⟩
  ·subst e';obtain⟨its,r,pl,hz⟩:=I.list hx;have hlen:=r.length;exact wpAny_truthy_list pl.isList (by simp only[ao];lia) ⟨H,I.tok _,by rw[vb r];exact q⟩
  ·subst e';obtain⟨its,r,pl,hz⟩:=I.tuple hx;have hlen:=r.length;exact truthy_tuple pl (by simp only[ao];lia) ⟨H,I.tok _,by rw[vb r];exact q⟩
  ·subst e';obtain⟨hz,hS,vs,r,m⟩:kvs.length<=sizeLine/\(p==sysModules)=Rn/\∃ vs,KV kvs vs/\s.heap.DictOf (jC X.prog X.w) p vs:=I.hok p _ hx;have hlen:kvs.length=vs.length:=ef r;exact wpAny_truthy_dict hS m (by lia) ⟨H,I.tok _,by rw[Bn r];exact q⟩
 | _=>exact(show False from e).elim
theorem zQ (ha:PE X a ta)(he:∀ whole,isTrue a X.env whole=(do let v<-whole;standAt a.pos;holding [v] (truthy v))) :
  PT X a (λ σ H Q=>ta σ H λ x H'=>∃ k,HD X.K x H' k/\Q k H'):=by
 intro pins s σ H Q I h;exact isTrue_plain (thn (ha pins s σ H _ I h) λ v s1 ⟨x,H1,I1,r1,q1⟩=>K8 pins s1 σ H1 x v Q I1 r1 q1) (he _)
theorem vals1 {x:V}{us:List gH}(r:Vals [x] us):∃ u,us=[u]/\RelV x u:=by
 cases r with
 | cons r1 r2=>cases r2;exact⟨_,rfl,r1⟩
theorem vals2 {x y:V}{us:List gH}(r:Vals [x,y] us):∃ u w',us=[u,w']/\RelV x u/\RelV y w':=by
 cases r with
 | cons r1 r2 =>
  cases r2 with
  | cons r3 r4=>cases r4;exact⟨_,_,rfl,r1,r3⟩
theorem tf (hc:X.calm=Rm):jq X (.builtin "max") (λ xs H Q=>∃ i j,xs=[.int i,.int j]/\Q (.int (if j>i then j else i)) H):=by
 intro pins s σ H xs us Q I r h;obtain⟨i,j,rfl,q⟩:=h;obtain⟨u,w',rfl,⟨t,rfl⟩,⟨t',rfl⟩⟩:=vals2 r;refine max_two_ints (I.ok.hd hc) λ h' tk k=>⟨_,H,I.kept k,?_,q⟩;by_cases hj:j>i
 ·rw[ai hj,ai hj];exact⟨_,rfl⟩
 ·rw[aq hj,aq hj];exact⟨_,rfl⟩
theorem tj (hc:X.calm=Rm):jq X (.builtin "min") (λ xs H Q=>∃ i j,xs=[.int i,.int j]/\Q (.int (if j<i then j else i)) H):=by
 intro pins s σ H xs us Q I r h;obtain⟨i,j,rfl,q⟩:=h;obtain⟨u,w',rfl,⟨t,rfl⟩,⟨t',rfl⟩⟩:=vals2 r;refine min_two_ints (I.ok.hd hc) λ h' tk k=>⟨_,H,I.kept k,?_,q⟩;by_cases hj:j<i
 ·rw[ai hj,ai hj];exact⟨_,rfl⟩
 ·rw[aq hj,aq hj];exact⟨_,rfl⟩
end
section
variable {prog:Program}{w:World}{A:Around}{E:gE}{s:gJ}{K:gG}{x dx C f:Addr}{mA:gD}{name:Str}{v:gH}
end
theorem wX.some_of {v:V}{o:gF gH}(r:wX (My v) o):∃ u,o=My u/\RelV v u:=by
 cases o with
 | none=>exact(show False from r).elim
 | some u=>exact⟨u,rfl,r⟩
section
variable {P:Program}{w:World}{H H':Hp}{h h':Heap}{a C dx:Addr}{fs fs':List (Str×V)}
end
section
variable {X:Cx}{pins:gL}{σ:St}{H:Hp}{s:gJ}{a C dx:Addr}{fs:List (Str×V)}{f:Str}{v:V}{A:Around}{E:gE}
end
section
variable {X:Cx}{o e value:Expr}{f:Str}{pos pos' tpos:Pos}{ta tv:TE}
end
section
variable {X:Cx}{pins:gL}{σ:St}{H:Hp}{s:gJ}{A:Around}{E:gE}{Q:gE}{c:gH}{b:Bool}
end
structure jt (k:Nat)(A:Around):Prop where
 hd:A.handled=Rl
 dp:A.depth+3*k+5<recursionLimit
 un:A.units+16*k+200<cLine
 gd:A.guards=My []
theorem jt.mono {j k:Nat}{A:Around}(r:jt k A)(h:j<=k):jt j A:=⟨r.hd,by have:=r.dp;lia,by have:=r.un;lia,r.gd⟩
theorem jt.deeper {k:Nat}{A:Around}(r:jt (k+1) A)(env:Env):jt k (A.deeper env) :=
 ⟨r.hd,by have:=r.dp;show A.depth+1+3*k+5<_;lia,by have:=r.un;show A.units+3+16*k+200<_;lia,r.gd⟩
theorem jt.depth {k:Nat}{A:Around}(r:jt k A):A.depth<recursionLimit:=by have:=r.dp;lia
theorem jt.units {k:Nat}{A:Around}(r:jt k A):A.units+64<cLine:=by have:=r.un;lia
def iA:TA:=λ _ H Q=>Q [] H
def gX (ta:TE)(tr:TA):TA:=λ σ H Q=>ta σ H λ x H1=>tr σ H1 λ xs H2=>Q (x::xs) H2
section
variable {X:Cx}{e:Expr}{es:List Expr}{te:TE}{t:TA}{pos:Pos}
theorem g_:PA X [] iA:=λ _ _ _ _ H Q I h=>Calls.spliced_nil ⟨[],H,I,.nil,h⟩
theorem gP (ha:PE X e te)(hr:PA X es t)(hs:starEach (e::es) X.env=(Rn,eval e X.env)::starEach es X.env:=by rfl):PA X (e::es) (gX te t):=by intro pos pins s σ H Q I h;rw[hs];show wpAny _ _ (spliced ((Rn,eval e X.env)::backTo pos (starEach es X.env))) _ _ s;refine Calls.spliced_cons (thn (ha pins s σ H _ I h) λ u s1 ⟨x,H1,I1,r1,q1⟩=>?_);exact thn (hr pos pins s1 σ H1 _ I1 q1) λ us s2 ⟨xs,H2,I2,r2,q2⟩=>⟨x::xs,H2,I2,.cons r1 r2,q2⟩
def pg (t:TA):TE:=λ σ H Q=>t σ H λ xs H1=>xs.length<=sizeLine/\∀ p,H1 p=Rl->Q (.ref p) (upd H1 p (.tup xs))
def ph (t:TA):TE:=λ σ H Q=>t σ H λ xs H1=>xs.length<=sizeLine/\∀ p,H1 p=Rl->Q (.ref p) (upd H1 p (.lst xs))
theorem mf {x1}(h:PA X es t):PE X (.Tuple es x1 pos) (pg t):=by intro pins s σ H Q I hq;refine wpAny_Tuple_spliced (thn (h pos pins s σ H _ I hq) λ us s1 ⟨xs,H1,I1,r,z,q⟩=>⟨by rw[<-r.length];exact z,?_⟩);have hf:H1 s1.heap.objs.size=Rl:=I1.hok.fresh (ar _);refine⟨.ref s1.heap.objs.size,upd H1 s1.heap.objs.size (.tup xs),I1.laid (t':=s1.toks) (λ b u e=>ag _ e) (ar _) ?_,rfl,q _ hf⟩;exact⟨⟨z,_,aE _ rfl,rfl⟩,us,r,⟨_,aE _ rfl,rfl,_,rfl⟩⟩
theorem jP (h:PA X es t):PE X (.List es pos) (ph t):=by intro pins s σ H Q I hq;refine wpAny_List_spliced (thn (h pos pins s σ H _ I hq) λ us s1 ⟨xs,H1,I1,r,z,q⟩=>⟨by rw[<-r.length];exact z,?_⟩);have hf:H1 s1.heap.objs.size=Rl:=I1.hok.fresh (ar _);refine⟨.ref s1.heap.objs.size,upd H1 s1.heap.objs.size (.lst xs),I1.laid (t':=s1.toks) (λ b u e=>ag _ e) (ar _) ?_,rfl,q _ hf⟩;exact⟨z,us,0,r,aE _ rfl⟩
end
abbrev Sp:=List V->Hp->VK->XK->Prop
abbrev CXT:=List Env->Hp->gJ->XK->gH->gJ->Prop
structure Dv (P:Program)(w:World)(K:gG)(mg:gD)(base:Heap)(A:Around)(outer:List Env)(s:gJ)(H:Hp):Prop where
 frames:A.frames=My outer
 mod:Mod K mg base
 bs:∀ b o,base.get? b=My o->s.heap.get? b=My o/\H b=Rl
 bsz:base.objs.size<=s.heap.objs.size
 sV:s.heap.FunFrames base outer
 frf:∀ b∈frs outer,H b=Rl
 hok:HOk P w H s.heap
 bare:AllBare s.gens
def CE (outer:List Env)(P:Program)(w:World)(H:Hp)(s:gJ)(Q:VK)(u:gH)(s':gJ):Prop :=
 ∃ v H',s'.os=s.os/\AllBare s'.gens/\Un (frs outer) [] H H' s.heap s'.heap/\HOk P w H' s'.heap/\RelV v u/\Q v H'
def CR (CX:CXT)(outer:List Env)(P:Program)(w:World)(H:Hp)(s:gJ)(Q:VK)(E:XK)(r:Result)(s':gJ):Prop :=
 match r with
 | .ok (.ret u)=>CE outer P w H s Q u s'
 | .ok _=>False
 | .error e=>CX outer H s E e s'
structure pE (P:Program)(w:World)(K:gG)(mg:gD)(base:Heap)(CX:CXT)(k:Nat)(f:Addr)(fd:FuncData)(ps:List Str)(sp:Sp):Prop where
 len:∀ vs H Q E,sp vs H Q E->vs.length=ps.length
 run:∀ (A:Around) (outer:List Env) (s:gJ) (H:Hp) (args:Args) (us:List gH) (vs:List V) (Q:VK) (E:XK),jt k A->Dv P w K mg base A outer s H->BindsTo s fd args (ps.zip us)->Vals vs us->sp vs H Q E ->
  codeAny (model P w) A (.call (.ref f) args) (CR CX outer P w H s Q E) s
section
variable {X:Cx}{pins:gL}{σ:St}{H:Hp}{s s':gJ}
theorem Inv.Nc (I:Inv X pins σ H s):Dv X.prog X.w X.K X.mg X.base X.A X.stack s H :=
 ⟨I.ok.frames,I.ok.mod,I.bs,bA I.ok.bsz I.sz,I.stack,I.rh,I.hok,I.bare⟩
theorem Inv.after {Q:VK}{u:gH}(I:Inv X pins σ H s)(h:CE X.stack X.prog X.w H s Q u s'):EP X pins σ Q u s':=by obtain⟨v,H',os,bare,un,hok,r,q⟩:=h;obtain⟨hh,g,d,t,os'⟩:=s';obtain rfl:os'=s.os:=os;exact⟨v,H',I.call (h':=hh) (g':=g) (d':=d) (t':=t) (ch:=[]) un hok bare (λ b z=>absurd z (by simp)),r,q⟩
end
def jo (sp:Sp)(dvs:List V)(E:XK)(t:TA):TE:=λ σ H Q=>t σ H λ vs H1=>sp (vs++dvs) H1 Q E
def Binds (K:gG)(fd:FuncData)(ps:List Str)(ds:List gH):Prop :=
 ∀ (s:gJ) (us:List gH),K.In s.heap->(us++ds).length=ps.length->BindsTo s fd ⟨us,[]⟩ (ps.zip (us++ds))
theorem Binds.all {K:gG}{fd:FuncData}{ps:List Str}(h:∀ us:List gH,us.length=ps.length->bindArgs fd ⟨us,[]⟩=pure (ps.zip us)):Binds K fd ps []:=λ s us _ hl=>by rw[bt]at hl ⊢;exact .of_eq (h us hl)
def Passes (CX:CXT)(X:Cx)(E:XK):Prop:=∀ (pins:gL) (σ:St) (H:Hp) (s:gJ) (e:gH) (s':gJ),Inv X pins σ H s->CX X.stack H s E e s'->X.xe e s'
section
variable {X:Cx}{CX:CXT}{k:Nat}{f C:Addr}{fd:FuncData}{ps:List Str}{sp:Sp}{dvs:List V}{ds:List gH}{E:XK}{x m:Str}{p pos apos:Pos}{e o:Expr}{es:List Expr}{ta:TE}{t:TA}
theorem K9 {pins:gL}{σ:St}{H:Hp}{s:gJ}{Q:VK}{us:List gH}{vs:List V}(F:pE X.prog X.w X.K X.mg X.base CX k f fd ps sp)(hr:jt k X.A)(hb:Binds X.K fd ps ds)(hd:Vals dvs ds)(hx:Passes CX X E)
  (I:Inv X pins σ H s) (r:Vals vs us) (h:sp (vs++dvs) H Q E):wpAny (model X.prog X.w) X.A (call (.ref f) us) (EP X pins σ Q) X.xe s:=by
 have r2:Vals (vs++dvs) (us++ds):=r.append hd;have hl:(us++ds).length=ps.length:=by rw[<-r2.length];exact F.len _ _ _ _ h
 refine f6 (codeAny_mono (F.run X.A X.stack s H ⟨us,[]⟩ (us++ds) (vs++dvs) Q E hr I.Nc (hb s us I.kIn hl) r2 h) λ r s' hq=>?_);cases r with
 | error e=>exact hx pins σ H s e s' I hq
 | ok fl =>
  cases fl with
  | ret u=>exact I.after hq
  | next=>exact False.elim hq
  | brk=>exact False.elim hq
  | cont=>exact False.elim hq
theorem uL (F:pE X.prog X.w X.K X.mg X.base CX k f fd ps sp)(hr:jt k X.A)(hg:Gl X x)(hm:X.mg x=My (.ref f))(hk:PySem.W.keepIn X.K (.ref f)=Rm)(hb:Binds X.K fd ps ds)(hd:Vals dvs ds)(hx:Passes CX X E)
  (ha:PA X (e::es) t) (hdb:(x==("__debug__":Str))=Rn:=by decide) (he:starEach (e::es) X.env=(Rn,eval e X.env)::starEach es X.env:=by rfl) (hpl:(backTo pos (starEach es X.env)).any (·.1)=Rn:=by rfl) :
  PE X (.Call (.Name x p) (e::es) [] pos) (jo sp dvs E t):=by
 intro pins s σ H Q I h;refine eD (rm I hg hm ?_ hdb);refine PySem.W.callWith_K (h₀:=X.base) I.ok.mod.kin hk (thn (ha pos pins s σ H _ I h) λ us s1 ⟨vs,H1,I1,r,q⟩=>⟨I1.kIn,?_⟩) he hpl;exact K9 F hr hb hd hx I1 r q
end
section
variable {X:Cx}{CX:CXT}{k:Nat}{f C:Addr}{fd:FuncData}{ps ks:List Str}{sp:Sp}{E:XK}{x m:Str}{p pos apos kpos:Pos}{e o:Expr}{es:List Expr}{kws:List Keyword}{te ta:TE}{t tk:TA}{nm:gF Str}
variable {g:List gH->List gH->List gH}{gV:List V->List V->List V}
end
structure iI (N P:List Str)(sc:Scope):Prop where
 kind:sc.kind=.function
 co:sc.isCoroutine=Rn
 gen:sc.isGenerator=Rn
 nd:N.Nodup
 pre:N.take P.length=P
 par:∀ x∈P,sc.names.lookup x=My .local\/sc.names.lookup x=My .cell
 K_:∀ y∈sc.names,y.2≠.free
theorem xD {kindOf:Str->gF NameKind}{x:Str}:∀ {binds:List (Str×gH)} {m:gD},(∀ v,(x,v)∉binds)->bindL kindOf binds m x=m x
 | [],_,_=>rfl
 | (n,v)::r,m,h=>by
  unfold bindL;rw[xD λ w hw=>h w (aw _ hw)];split
  ·have:x≠n:=by rintro rfl;exact h v ay
   simp[this]
  ·rfl
theorem xE {kindOf:Str->gF NameKind}{x:Str}:∀ {binds:List (Str×gH)} {m:gD},(∀ v,(x,v)∉binds)->bindC kindOf binds m x=m x
 | [],_,_=>rfl
 | (n,v)::r,m,h=>by
  unfold bindC;rw[xE λ w hw=>h w (aw _ hw)];split
  ·rfl
  ·have:x≠n:=by rintro rfl;exact h v ay
   simp[this]
theorem xF {kindOf:Str->gF NameKind}{x:Str}{v:gH}:∀ {P:List Str} {vs:List gH} {i:Nat} {m:gD},P.Nodup->P[i]?=My x->vs[i]?=My v->kindOf x=My .local ->
  bindL kindOf (P.zip vs) m x=My v
 | [],_,_,_,_,h,_,_=>by simp at h
 | _::_,[],_,_,_,_,h,_=>by simp at h
 | p::P,w::vs,0,m,nd,h1,h2,hk=>by simp at h1 h2;subst h1;subst h2;show bindL kindOf ((p,w)::P.zip vs) m p=_;unfold bindL;rw[xD λ v hv=>(bu.mp nd).1 (fy hv).1,ai hk];simp
 | p::P,w::vs,i+1,m,nd,h1,h2,hk=>by show bindL kindOf ((p,w)::P.zip vs) m x=_;unfold bindL;exact xF (i:=i) (bu.mp nd).2 (by simpa using h1) (by simpa using h2) hk
theorem xG {kindOf:Str->gF NameKind}{x:Str}{v:gH}:∀ {P:List Str} {vs:List gH} {i:Nat} {m:gD},P.Nodup->P[i]?=My x->vs[i]?=My v->kindOf x≠My .local ->
  bindC kindOf (P.zip vs) m x=My v
 | [],_,_,_,_,h,_,_=>by simp at h
 | _::_,[],_,_,_,_,h,_=>by simp at h
 | p::P,w::vs,0,m,nd,h1,h2,hk=>by simp at h1 h2;subst h1;subst h2;show bindC kindOf ((p,w)::P.zip vs) m p=_;unfold bindC;rw[xE λ v hv=>(bu.mp nd).1 (fy hv).1,aq hk];simp
 | p::P,w::vs,i+1,m,nd,h1,h2,hk=>by show bindC kindOf ((p,w)::P.zip vs) m x=_;unfold bindC;exact xG (i:=i) (bu.mp nd).2 (by simpa using h1) (by simpa using h2) hk
def start (N:List Str)(vs:List V):St:=vs.map My++Rp (N.length-vs.length) Rl
def pj (CX:CXT)(P:Program)(w:World)(K:gG)(mg:gD)(base:Heap)(N:List Str)(qual:Str)(scope:Scope)(f:Addr)(cd:gH)(A:Around)(outer:List Env)(s:gJ)(H:Hp)(E:XK):Cx where
 prog:=P
 w:=w
 K:=K
 mg:=mg
 base:=base
 A:=A.deeper (envOfC qual scope s.heap.objs.size f cd)
 N:=N
 s₀:=s
 H₀:=H
 env:=envOfC qual scope s.heap.objs.size f cd
 outer:=outer
 stack:=envOfC qual scope s.heap.objs.size f cd::outer
 ex:=[]
 calm:=Rm
 fn:=λ _=>Rm
 pn:=[]
 xe:=λ e s'=>wpAny (model P w) (A.deeper (envOfC qual scope s.heap.objs.size f cd)) (leaving (envOfC qual scope s.heap.objs.size f cd) e) (λ _ s''=>CX outer H s E e s'') (λ e' s''=>CX outer H s E e' s'') s'
theorem zR {sc:Scope}{n:Nat}{x:Str}(h:sc.names.lookup x=My .cell):∃ c,(cellsFrom n sc.names []).lookup x=My c:=by have q:=eP sc.names n [] (.inl h);exact dz.mp q
theorem xH {CX:CXT}{P:Program}{w:World}{K:gG}{mg:gD}{base:Heap}{N ps:List Str}{qual:Str}{scope:Scope}{f:Addr}{cd:gH}{A:Around}{outer:List Env}{s s1:gJ}{H:Hp}{E:XK}{us:List gH}{vs:List V}
  (S:iI N ps scope) (hd:A.handled=Rl) (e0:Dv P w K mg base A outer s H) (hl:vs.length=ps.length) (r:Vals vs us)
  (x:InCallC s s.heap.objs.size (bindL (envOfC qual scope s.heap.objs.size f cd).kindOf (ps.zip us) λ _=>Rl) (cellsFrom (s.heap.objs.size+1) scope.names []) (bindC (envOfC qual scope s.heap.objs.size f cd).kindOf (ps.zip us) λ _=>Rl) s1) :
  Inv (pj CX P w K mg base N qual scope f cd A outer s H E) [] (start N vs) H s1:=by
 have hpl:ps.length<=N.length:=by have:=cK List.length S.pre;rw[bf]at this;lia
 obtain⟨h1,tk,rfl,hk⟩:=x.done;have noA:∀ b:Addr,b∉(pj CX P w K mg base N qual scope f cd A outer s H E).ex:=λ b z=>absurd (show b∈([]:List Addr) from z) (by simp);refine⟨⟨e0.mod,S.kind,rfl,rfl,ar _,λ y z c h1 h2=>?_,λ y hy=>?_,λ y c _ h=>?_,λ _=>hd,Around.frames_deeper e0.frames,.inr ⟨rfl,rfl⟩,λ b z=>absurd z (noA b),e0.bs,e0.bsz,λ b _ _=>noA b,λ b z=>absurd z (noA b),e0.sV,e0.frf⟩,
  rfl,e0.bare,Un.kept hk,⟨_,x.toInCall.ns,λ i y v h1 h2 h3=>?_⟩,λ y c h=>⟨_,x.cell y c h⟩,e0.hok.fresh (ar _),λ y c h=>?_,λ p hp=>absurd (show p∈([]:gL) from hp) (by simp),e0.hok.kept hk,?_⟩
 ·exact name_of_addr x.apart (cN h1) (cN h2)
 ·have hy:scope.names.lookup y=My .cell\/scope.names.lookup y=My .free:=hy
  rcases hy with hy | hy
  ·exact zR hy
  ·exact absurd rfl (S.K_ _ (cN hy))
 ·exact eM (x.above y c (cN h))
 ·have hi:i<vs.length:=by
   unfold start at h2;by_cases hi:i<vs.length
   ·exact hi
   ·rw[bH (by simpa using hi)]at h2;rw[List.getElem?_replicate]at h2;split at h2<;>cases h2
  have ha:vs[i]?=My v:=by
   unfold start at h2;rw[bL (by simpa using hi),aJ]at h2;cases e:vs[i]? with
   | none=>rw[e]at h2;cases h2
   | some a=>rw[e]at h2;cases h2;rfl
  obtain⟨u,hu,rv⟩:=r.get ha;have hp:ps[i]?=My y:=by rw[<-S.pre,eg (by lia)];exact h1
  have ndP:ps.Nodup:=by rw[<-S.pre];exact S.nd.sublist (List.take_sublist _ _)
  refine⟨u,rv,?_⟩;rcases S.par y (aY hp) with k | k
  ·exact .inl ⟨k,xF ndP hp hu k⟩
  ·obtain⟨c,e⟩:=zR (n:=s.heap.objs.size+1) k;refine .inr ⟨.inl k,c,e,?_⟩;have q:=x.cell y c e;rw[xG ndP hp hu (by show scope.names.lookup y≠_;rw[k];decide)]at q;exact q
 ·exact e0.hok.fresh (eM (x.above y c (cN h)))
 ·unfold start;show _=N.length;rw[aC,ah,List.length_replicate];lia
theorem JX {CX:CXT}{P:Program}{w:World}{K:gG}{mg:gD}{base:Heap}{k:Nat}{f:Addr}{name qual:Str}{params:Arguments}{body:List Stmt}{scope:Scope}{dV kV doc pm cdv ct oc:gH}{an od:gF Addr}
  {osl:Array (gF gH)} {N ps:List Str} {sp:Sp} (lk:K.lookup f=My ⟨oc,od,.func (PySem.W.fnOf name qual params body scope dV kV doc pm an cdv ct),osl⟩) (hcd:PySem.W.codeIn K cdv qual=Rm) (S:iI N ps scope)
  (len:∀ vs H Q E,sp vs H Q E->vs.length=ps.length)
  (hbody:∀ (A:Around) (outer:List Env) (s:gJ) (H:Hp) (vs:List V) (Q:VK) (E:XK),jt k (A.deeper (envOfC qual scope s.heap.objs.size f cdv))->sp vs H Q E ->
   ∃ t,PSs (pj CX P w K mg base N qual scope f cdv A outer s H E) body t/\t {nx:=λ _ H'=>Q .non H',rt:=Q} (start N vs) H) :
  pE P w K mg base CX (k+1) f (PySem.W.fnOf name qual params body scope dV kV doc pm an cdv ct) ps sp:=by
 refine⟨len,λ A outer s H args us vs Q E hr e0 hb r hsp=>?_⟩;have hl:=len _ _ _ _ hsp;have KX:K.In s.heap:=e0.mod.kin.keeps λ b o e=>(e0.bs b o e).1;have lim:s.heap.NoLimit:=e0.mod.nolimit.keeps λ b o e=>(e0.bs b o e).1;have hkind:∀ y∈ps.zip us,scope.names.lookup y.1=My .local\/(scope.names.lookup y.1=My .cell/\((cellsFrom (s.heap.objs.size+1) scope.names []).lookup y.1).isSome=Rm):=λ⟨n,v⟩ hy=>by
  rcases S.par n (fy hy).1 with q | q
  ·exact .inl q
  ·exact .inr ⟨q,eP _ _ _ (.inl q)⟩
 refine codeAny_call_function hr.depth (KX _ _ lk) rfl S.co S.gen rfl (PySem.W.codeRec_of KX hcd) (hb _ _ _ _ ?_);refine wpAny_newFunctionEnv_cells S.kind hkind λ env he s1 x=>?_;subst he;refine⟨lim.keeps x.toInCall.keep,codeAny_func ?_⟩;obtain⟨t,ht,hq⟩:=hbody A outer s H vs Q E (hr.deeper _) hsp;have I:Inv (pj CX P w K mg base N qual scope f cdv A outer s H E) [] (start N vs) H s1:=xH S hr.hd e0 hl r x;refine cW (ht [] s1 (start N vs) H _ I hq) (λ fl s' hs=>?_) λ e s' hs=>hs;have fin:∀ {σ':St} {H':Hp} {v:V} {u:gH},Inv (pj CX P w K mg base N qual scope f cdv A outer s H E) [] σ' H' s'->RelV v u->Q v H'->CE outer P w H s Q u s' :=
  λ{σ' H' v u} J rv q=>⟨v,H',J.os,J.bare,J.base,J.hok,rv,q⟩
 cases fl with
 | ret u =>obtain⟨v,σ',H',J,rv,q⟩:=hs;exact fin J rv q
 | next =>obtain⟨σ',H',J,q⟩:=hs;exact fin (v:=V.non) (u:=Value.none) J rfl q
 | brk =>obtain⟨_,_,_,q⟩:=hs;exact False.elim q
 | cont =>obtain⟨_,_,_,q⟩:=hs;exact False.elim q
section
variable {X:Cx}{x:Str}{p pos:Pos}{e:Expr}{es:List Expr}{t:TA}{id T:String}{r:List V->Hp->VK->Prop}
def tCB (r:List V->Hp->VK->Prop)(t:TA):TE:=λ σ H Q=>t σ H λ vs H1=>r vs H1 Q
theorem jH (hc:jq X (.builtin id) r)(hg:Gl X x)(hm:X.mg x=Rl)(hv:bootBuiltins x=My (.builtin id))(ha:PA X (e::es) t)(hn:x≠"__name__":=by decide)(hdb:(x==("__debug__":Str))=Rn:=by decide)
  (he:starEach (e::es) X.env=(Rn,eval e X.env)::starEach es X.env:=by rfl) (hpl:(backTo pos (starEach es X.env)).any (·.1)=Rn:=by rfl):PE X (.Call (.Name x p) (e::es) [] pos) (tCB r t):=by
 intro pins s σ H Q I h;refine eD (sW I hg hm hv ?_ hn hdb);exact PyProof.Rows.callWith_builtin1 (thn (ha pos pins s σ H _ I h) λ us s1 ⟨vs,H1,I1,r1,q1⟩=>hc pins s1 σ H1 vs us Q I1 r1 q1) he hpl
theorem kX (hc:jq X (.type T) r)(hg:Gl X x)(hm:X.mg x=Rl)(hv:bootBuiltins x=My (.type T))(ha:PA X (e::es) t)(hn:x≠"__name__":=by decide)(hdb:(x==("__debug__":Str))=Rn:=by decide)
  (he:starEach (e::es) X.env=(Rn,eval e X.env)::starEach es X.env:=by rfl) (hpl:(backTo pos (starEach es X.env)).any (·.1)=Rn:=by rfl):PE X (.Call (.Name x p) (e::es) [] pos) (tCB r t):=by
 intro pins s σ H Q I h;refine eD (sW I hg hm hv ?_ hn hdb);exact cR (thn (ha pos pins s σ H _ I h) λ us s1 ⟨vs,H1,I1,r1,q1⟩=>hc pins s1 σ H1 vs us Q I1 r1 q1) he hpl
end
end L2
namespace HT
open PySem PyProof.Rows
def lexLt:List Int->List Int->Bool
 | [],[]=>Rn
 | [],_::_=>Rm
 | _::_,[]=>Rn
 | x::xs,y::ys=>if x=y then lexLt xs ys else decide (x<y)
theorem Bo (x y:Int)(xs ys:List Int):lexLt (x::xs) (y::ys)=if x=y then lexLt xs ys else decide (x<y):=rfl
theorem w9:lexLt [] []=Rn:=rfl
theorem vc (y:Int)(ys:List Int):lexLt [] (y::ys)=Rm:=rfl
theorem vd (x:Int)(xs:List Int):lexLt (x::xs) []=Rn:=rfl
theorem EJ (A:Around)(s:gJ)(a:Int)(t:Tok)(c:Int)(u:Tok):∃ e,SeqAt.EqAt A s (.int a t) (.int c u) e/\(e=Rm↔a=c) :=
 ⟨(a==c),SeqAt.EqAt.int_int a t c u,by simp⟩
theorem EK (A:Around)(s:gJ)(a:Int)(t:Tok)(c:Int)(u:Tok)(prog:Program)(w:World)(E:gE)(Q:gE)(h:Q (.bool (decide (a<c))) s) :
  wpAny (model prog w) A (richCompare .Lt (.int a t) (.int c u)) Q E s :=
 (PyProof.Rows.lt_int h:wpAny (model prog w) A (compareOp .Lt (.int a t) (.int c u)) Q E s)
section
open PySem.SeqAt
open PySem.AutoSeq1 (wpAny_loadPart')
open PySem.MeetsSeq PySem.MeetsSeq2 PySem.MeetsSeq3
theorem w_ (l b:Addr)(items items2:Array gH)(n n2:Nat)(dd dd2:gF Addr)(sl sl2:Array (gF gH))(ns ms:List Int)(hi:IntsAre items.toList ns)(hj:IntsAre items2.toList ms) :
  Meets (Builtin.«tuple.__lt__» ⟨[.ref l,.ref b],[]⟩)
   (λ _ R s=>s.heap.get? l=My {cls:=.type "tuple",dict:=dd,data:=.seq items n,slots:=sl}/\s.heap.get? b=My {cls:=.type "tuple",dict:=dd2,data:=.seq items2 n2,slots:=sl2} /\
    R (.ok (.ret (.bool (lexLt ns ms)))) s) :=
 .of_wp λ prog w A R s h=>by
  obtain⟨hp,g,d,tk,os⟩:=s;obtain⟨hl,hb,h⟩:=h;have f2:=AutoSeq1.sub_tuple_tuple;have z1:items.size=ns.length:=by rw[<-hi.length];simp
  have z2:items2.size=ms.length:=by rw[<-hj.length];simp
  wp_walk using wpAny_loadPart' hl,wpAny_loadPart' hb,wpAny_forIn_list _ (λ rest b s'=>b.1=Rl/\s'=⟨hp,g,d,tk,os⟩/\∃ (vs ws:List gH) (ns' ms':List Int),rest=vs.zip ws /\
   IntsAre vs ns'/\IntsAre ws ms'/\ns'.length+items2.size=ms'.length+items.size/\R (.ok (.ret (.bool (lexLt ns' ms')))) ⟨hp,g,d,tk,os⟩) _
  case turn =>
   rintro⟨y,x⟩ rest b s' ⟨hb',rfl,vs,ws,ns',ms',hz,hvi,hwi,hlen,hR⟩;cases hvi with
   | nil=>rw[List.zip_nil_left]at hz;cases hz
   | cons a t hvi' =>
    cases hwi with
    | nil=>rw[List.zip_nil_right]at hz;cases hz
    | cons c u hwi' =>
     rw[fF]at hz;injection hz with hyx hrest;injection hyx with hy hx;subst hy hx;rw[Bo]at hR;simp only[bX]at hlen;obtain⟨e,he,hiff⟩:=EJ A.in1 ⟨hp,g,d,tk,os⟩ a t c u;refine ae (he prog w _ _ ?_);cases e with
     | true =>
      rw[ai (hiff.mp rfl)]at hR
      wp_walk
      exact⟨rfl,rfl,_,_,_,_,hrest,hvi',hwi',by lia,hR⟩
     | false =>
      rw[aq (λ q=>absurd (hiff.mpr q) au)]at hR;have hri:=EK A.in1 ⟨hp,g,d,tk,os⟩ a t c u prog w
      wp_walk using hri
      exact⟨_,rfl,by simpa using hR⟩
  case fin =>
   rintro⟨b1,b2⟩ s' ⟨hb',rfl,vs,ws,ns',ms',hz,hvi,hwi,hlen,hR⟩;simp only at hb';subst hb';have hv:lexLt ns' ms'=decide (items.size<items2.size):=by
    cases hvi with
    | nil =>
     cases hwi with
     | nil =>simp only[dQ]at hlen;rw[w9];exact(decide_eq_false (by lia)).symm
     | cons c u hw =>simp only[dQ,bX]at hlen;rw[vc];exact(decide_eq_true (by lia)).symm
    | cons a t hv =>
     cases hwi with
     | nil =>simp only[dQ,bX]at hlen;rw[vd];exact(decide_eq_false (by lia)).symm
     | cons c u hw =>rw[fF]at hz;cases hz
   rw[hv]at hR
   wp_walk
   exact⟨_,rfl,by simpa [Builtin.Tuple.tupleCompareSizes] using hR⟩
  case h =>exact⟨rfl,rfl,items.toList,items2.toList,ns,ms,rfl,hi,hj,by lia,h⟩
end
section
variable {prog:Program}{w:World}{A:Around}{E:gE}{s:gJ}
theorem Bp {l b:Addr}{items items2:Array gH}{ns ms:List Int}{Q:gE}(hl:IsTup s.heap l items)(hb:IsTup s.heap b items2)(hi:IntsAre items.toList ns)(hj:IntsAre items2.toList ms)
  (hu:A.units<cLine) (h:Q (.bool (lexLt ns ms)) s):wpAny (model prog w) A (compareOp .Lt (.ref l) (.ref b)) Q E s:=by
 obtain⟨⟨cls,dd,data,sl⟩,ho,hc,n,hd⟩:=id hl;obtain⟨⟨cls2,dd2,data2,sl2⟩,ho2,hc2,n2,hd2⟩:=id hb;simp only at hc hd hc2 hd2;subst hc hd hc2 hd2;exact richCompare_meets_room (op:=.Lt) ⟨_,ho,rfl⟩ ⟨_,ho2,rfl⟩ PySem.F.slot_tuple_lt PySem.F.entry_tuple_lt (PySem.F.args_tuple_lt_2 _ _) (w_ l b items items2 n n2 dd dd2 sl sl2 ns ms hi hj)
  ⟨ho,ho2,show Value.bool (lexLt ns ms)≠Value.notImplemented/\Q (.bool (lexLt ns ms)) s from ⟨(λ x=>nomatch x),h⟩⟩ hu
theorem HE {t b:Addr}{vs ws:List gH}{Q:gE}(ht:IsTup s.heap t vs.toArray)(hb:IsTup s.heap b ws.toArray)(hv:vs≠[])
  (h1:ws=[]->Q (.ref t) s) (h2:ws≠[]->Q (.ref s.heap.objs.size) {s with heap:=s.heap.push {cls:=.type "tuple",data:=.seq (vs++ws).toArray}})
  (hsz:vs.length+ws.length<=sizeLine):wpAny (model prog w) A (binaryOp .Add (.ref t) (.ref b)) Q E s:=by
 obtain⟨⟨cls,dd,data,sl⟩,ho,hc,n,hd⟩:=id ht;obtain⟨⟨cls2,dd2,data2,sl2⟩,ho2,hc2,n2,hd2⟩:=id hb;simp only at hc hd hc2 hd2;subst hc hd hc2 hd2;have e:vs.toArray++ws.toArray=(vs++ws).toArray:=by simp
 by_cases hw:ws=[]
 ·exact concat_meets ⟨_,ho,rfl⟩ ⟨_,ho2,rfl⟩ noFill_tuple_add seq_tuple_add eQ eG (eh _ _)
   (tuple_addW1 t b vs.toArray ws.toArray n n2 dd dd2 sl sl2 (by simpa using hv) (by simp[hw])) ⟨ho,ho2,h1 hw⟩
 ·refine concat_meets ⟨_,ho,rfl⟩ ⟨_,ho2,rfl⟩ noFill_tuple_add seq_tuple_add eQ eG (eh _ _)
   (tuple_addW2 t b vs.toArray ws.toArray n n2 dd dd2 sl sl2 (by simpa using hv) (by simpa using hw) (by rw[ao,ao];exact hsz)) ⟨ho,ho2,?_⟩
  rw[e];exact h2 hw
def sIx (n d:Nat):gF Int->Nat
 | none=>d
 | some v=>if v<0 then (v+(n:Int)).toNat else min v.toNat n
theorem vf (n d:Nat):sIx n d Rl=d:=rfl
theorem nc (n d k:Nat):sIx n d (My (k:Int))=min k n:=by show(if (k:Int)<0 then ((k:Int)+(n:Int)).toNat else min (k:Int).toNat n)=min k n;rw[aq (by lia),bS]
theorem La (n d:Nat)(hd:d<=n)(o:gF Int):sIx n d o<=n:=by
 cases o with
 | none=>exact hd
 | some v =>
  show(if v<0 then (v+(n:Int)).toNat else min v.toNat n)<=n;by_cases hv:v<0
  ·rw[ai hv];lia
  ·rw[aq hv];exact Nat.min_le_right _ _
theorem Ct (v:Int)(n d:Nat):(if v<0 then max (v+(n:Int)) 0 else min v (n:Int))=((sIx n d (My v):Nat):Int):=by
 show(if v<0 then max (v+(n:Int)) 0 else min v (n:Int))=(((if v<0 then (v+(n:Int)).toNat else min v.toNat n):Nat):Int);by_cases hv:v<0
 ·simp only[ai hv];lia
 ·simp only[aq hv];lia
theorem Bq (lo hi:gF Int)(n:Nat):Builtin.Slice.sliceAdjust lo hi 1 (n:Int)=(((sIx n 0 lo:Nat):Int),((sIx n n hi:Nat):Int)):=by
 have h1:¬ ((1:Int)<0):=by lia
 unfold Builtin.Slice.sliceAdjust;simp only[h1,cp];refine gu ?_ ?_
 ·cases lo with
  | none=>rfl
  | some v=>exact Ct v n 0
 ·cases hi with
  | none=>rfl
  | some v=>exact Ct v n n
theorem Br (i j:Nat):Builtin.Slice.slicePlaces (i:Int) (j:Int) 1=j-i:=by
 unfold Builtin.Slice.slicePlaces;have h1:(1:Int)>0:=by lia
 simp only[h1,dU,Int.ediv_one];split<;>lia
theorem mR {v:gH}{o:gF Int}{Q:gF Int->gJ->Prop}(p:IsPart v o)(h:Q o s):wpAny (model prog w) A (Builtin.Slice.slicePartIndex v) Q E s:=by
 cases p with
 | none=>exact slicePart_none h
 | int i t=>exact slicePart_int h
theorem nI {sl:Addr}{vl vu:gH}{lo hi:gF Int}{n:Nat}{Q:Int×Int×Nat->gJ->Prop}(hs:s.heap.IsSliceOf sl vl vu .none)(pl:IsPart vl lo)(pu:IsPart vu hi)
  (h:Q (((sIx n 0 lo:Nat):Int),1,sIx n n hi-sIx n 0 lo) s):wpAny (model prog w) A (Builtin.Slice.sliceApplied (.ref sl) (pure (n:Int))) Q E s:=by
 obtain⟨os,hos,hcs,hds⟩:=id hs;unfold Builtin.Slice.sliceApplied Builtin.Slice.sliceFields;refine ae (ae (bU hos hds (x:=vl) rfl (ae (bU hos hds (x:=vu) rfl (ae (bU hos hds (x:=.none) rfl (af ?_)))))));refine ae (slicePart_none ?_);show wpAny _ _ (if ((1:Int)==0)=Rm then _ else _) _ _ s;rw[aq (by decide)];refine ae (mR pl (ae (mR pu (ae (af ?_)))));show wpAny _ _ (match Builtin.Slice.sliceAdjust lo hi 1 (n:Int) with | (lo,hi)=>pure (lo,(1:Int),Builtin.Slice.slicePlaces lo hi 1)) _ _ s;rw[Bq lo hi n];show wpAny _ _ (pure (((sIx n 0 lo:Nat):Int),(1:Int),Builtin.Slice.slicePlaces ((sIx n 0 lo:Nat):Int) ((sIx n n hi:Nat):Int) 1)) _ _ s;rw[Br];exact af h
theorem EL (xs:Array gH)(i k:Nat):((Ro k).filterMap λ(m:Nat)=>xs[((i:Int)+(m:Int)*1).toNat]?).toArray=((xs.toList.drop i).take k).toArray:=by
 have e:(λ(m:Nat)=>xs[((i:Int)+(m:Int)*1).toNat]?)=λ m=>xs[i+m]?:=by
  funext m;have:((i:Int)+(m:Int)*1).toNat=i+m:=by lia
  rw[this]
 rw[e];have:=pick_run xs i k;rw[List.filterMap_map]at this;have e2:((λ x=>xs[x]?)∘λ x=>i+x)=λ m=>xs[i+m]?:=rfl;rw[e2]at this;rw[this]
theorem rA {t sl:Addr}{items:Array gH}{vl vu:gH}{lo hi:gF Int}{Q:gE}(ht:IsTup s.heap t items)(hs:s.heap.IsSliceOf sl vl vu .none)(pl:IsPart vl lo)(pu:IsPart vu hi)
  (hw:¬ (sIx items.size 0 lo=0/\sIx items.size items.size hi=items.size))
  (h:Q (.ref s.heap.objs.size) {s with heap:=s.heap.push {cls:=.type "tuple",data:=.seq ((items.toList.drop (sIx items.size 0 lo)).take (sIx items.size items.size hi-sIx items.size 0 lo)).toArray}})
  (hsz:items.size<=sizeLine):wpAny (model prog w) A (getItem (.ref t) (.ref sl)) Q E s:=by
 have htake:sizeOk (.seq ((items.toList.drop (sIx items.size 0 lo)).take (sIx items.size items.size hi-sIx items.size 0 lo)).toArray):=by show((items.toList.drop (sIx items.size 0 lo)).take (sIx items.size items.size hi-sIx items.size 0 lo)).toArray.size<=sizeLine;rw[ao,bf,bG,bx];lia (config:={})
 have hj:sIx items.size items.size hi<=items.size:=La _ _ (ar _) hi;obtain⟨os,hos,hcs,hds⟩:=id hs;have hTs:s.TypeIs (.ref sl) "slice":=⟨os,hos,hcs⟩;unfold getItem;try with_reducible refine bK ?_
 first | refine ae (af ?_) | skip
 refine ae (fM ht.typeIs (by decide) ?_);refine ae (bJ (name:=Str.ofString "__getitem__") ht.typeIs ba
  (bY ba ht.typeIs entry_tuple_getitem ?_ (args_tuple_getitem _ _)))
 show wpAny _ _ (Builtin.Tuple.tupleItemsOf (.ref t)>>=_) _ _ s;refine ae (tupleItemsOf_ ht ?_);refine ae (eR hTs ?_);rw[ai (by decide)];refine ae (nI hs pl pu ?_);have hno:¬ ((((sIx items.size 0 lo:Nat):Int)==0&&(1:Int)==1&&(sIx items.size items.size hi-sIx items.size 0 lo)==items.size)=Rm):=by intro q;rw[aU,aU]at q;have q1:((sIx items.size 0 lo:Nat):Int)=0:=eq_of_beq q.1.1;have q2:sIx items.size items.size hi-sIx items.size 0 lo=items.size:=eq_of_beq q.2;exact hw ⟨by lia (config:={}),by lia (config:={})⟩
 show wpAny _ _ (if (((sIx items.size 0 lo:Nat):Int)==0&&(1:Int)==1&&(sIx items.size items.size hi-sIx items.size 0 lo)==items.size)=Rm then _ else _) _ _ s;rw[aq hno,EL];first
  | exact ae (m:=Builtin.Tuple.tupleExact _) (bB (af ⟨_,rfl,af h⟩) htake)
  | exact ae (m:=Builtin.Tuple.tupleExact _) (bB (ae (af (af ⟨_,rfl,af h⟩))) htake)
  | exact ae (ae (m:=Builtin.Tuple.tupleExact _) (bB (af (af ⟨_,rfl,af h⟩)) htake))
  | exact ae (ae (m:=Builtin.Tuple.tupleExact _) (bB (af ⟨_,rfl,af h⟩) htake))
end
end HT
namespace L2
open PySem PySem.Spec PyProof.Rows
abbrev TO:=St->Hp->(gF Int->Hp->Prop)->Prop
def PO (X:Cx)(e:gF Expr)(t:TO):Prop :=
 ∀ (pins:gL) (s:gJ) (σ:St) (H:Hp) (Q:gF Int->Hp->Prop),Inv X pins σ H s->t σ H Q ->
  wpAny (model X.prog X.w) X.A (evalPart e X.env) (λ u s'=>∃ o H',Inv X pins σ H' s'/\IsPart u o/\Q o H') X.xe s
def HF:TO:=λ _ H Q=>Q Rl H
def Nd (t:TE):TO:=λ σ H Q=>t σ H λ x H1=>∃ i,x=.int i/\Q (My i) H1
theorem intsAre_of {ns:List Int}:∀ {us:List gH},Vals (ns.map V.int) us->IntsAre us ns:=by
 induction ns with
 | nil=>intro us r;rw[f7]at r;cases r;exact .nil
 | cons n ns ih =>
  intro us r;rw[aS]at r;cases r with
  | cons r1 r2 =>obtain⟨t,e⟩:=r1;subst e;exact .cons n t (ih r2)
section
variable {X:Cx}{e:Expr}{te:TE}{lo hi:gF Expr}{tl th:TO}{pos p2:Pos}
theorem yz:PO X Rl HF:=by intro pins s σ H Q I h;rw[evalPart_none];exact af ⟨Rl,H,I,.none,h⟩
theorem yA (h:PE X e te):PO X (My e) (Nd te):=by intro pins s σ H Q I hw;rw[evalPart_some];refine thn (h pins s σ H _ I hw) λ u s1 ⟨x,H1,I1,r1,q1⟩=>?_;obtain⟨i,rfl,q⟩:=q1;obtain⟨t,rfl⟩:=r1;exact⟨My i,H1,I1,.int i t,q⟩
def SlR (X:Cx)(r:V->gF Int->gF Int->Hp->VK->Prop):Prop :=
 ∀ (pins:gL) (s:gJ) (σ:St) (H:Hp) (x:V) (v vl vu:gH) (lo hi:gF Int) (sl:Addr) (Q:VK),Inv X pins σ H s->RelV x v->s.heap.IsSliceOf sl vl vu .none->IsPart vl lo->IsPart vu hi->r x lo hi H Q ->
  ∃ T id,typeLookup (.type T) "__getitem__"=pure (My (.builtin id))/\s.TypeIs v T/\wpAny (model X.prog X.w) X.A (getItem v (.ref sl)) (EP X pins σ Q) X.xe s
theorem SlR.or {r r':V->gF Int->gF Int->Hp->VK->Prop}(h:SlR X r)(h':SlR X r'):SlR X (λ x lo hi H Q=>r x lo hi H Q\/r' x lo hi H Q):=by
 intro pins s σ H x v vl vu lo hi sl Q I rx hs pl pu q;rcases q with q | q
 ·exact h pins s σ H x v vl vu lo hi sl Q I rx hs pl pu q
 ·exact h' pins s σ H x v vl vu lo hi sl Q I rx hs pl pu q
def tSl (r:V->gF Int->gF Int->Hp->VK->Prop)(te:TE)(tl th:TO):TE:=λ σ H Q=>te σ H λ x H1=>tl σ H1 λ l H2=>th σ H2 λ u H3=>r x l u H3 Q
theorem vg {r:V->gF Int->gF Int->Hp->VK->Prop}(hr:SlR X r)(he:PE X e te)(hl:PO X lo tl)(hu:PO X hi th):PE X (.Subscript e (.Slice lo hi Rl p2) pos) (tSl r te tl th):=by intro pins s σ H Q I h;refine Subscript_ (thn (he pins s σ H _ I h) λ v s1 ⟨x,H1,I1,r1,q1⟩=>?_);refine wpAny_Slice (thn (hl pins s1 σ H1 _ I1 q1) λ vl s2 ⟨l,H2,I2,pl,q2⟩=>thn (hu pins s2 σ H2 _ I2 q2) λ vu s3 ⟨u,H3,I3,pu,q3⟩=>?_);rw[evalPart_none];refine af ?_;have I4:Inv X pins σ H3 {s3 with heap:=s3.heap.push {cls:=.type "slice",data:=.fields #[vl,vu,.none]}}:=I3.kept (t':=s3.toks) λ b ob q=>ag _ q;obtain⟨T,id,hT,ht,hg⟩:=hr pins {s3 with heap:=s3.heap.push {cls:=.type "slice",data:=.fields #[vl,vu,.none]}} σ H3 x v vl vu l u s3.heap.objs.size Q I4 r1 (Heap.IsSliceOf.new ..) pl pu q3;show wpAny (model X.prog X.w) X.A (subscriptTail e (.Slice lo hi Rl p2) v (.ref s3.heap.objs.size)) (EP X pins σ Q) X.xe {s3 with heap:=s3.heap.push {cls:=.type "slice",data:=.fields #[vl,vu,.none]}};exact tail_any (ops:=[.ref s3.heap.objs.size,v]) ht hT hg (by with_unfolding_all rfl)
def uy (xs:List V)(lo hi:gF Int):List V:=(xs.drop (HT.sIx xs.length 0 lo)).take (HT.sIx xs.length xs.length hi-HT.sIx xs.length 0 lo)
theorem ua (xs:List V)(lo hi:gF Int):(uy xs lo hi).length<=xs.length:=by unfold uy;rw[bf,bG];lia
def Pq (K:gG):V->gF Int->gF Int->Hp->VK->Prop:=λ x lo hi H Q=>∃ a xs,x=.ref a/\SqT K H a xs /\
 ¬ (HT.sIx xs.length 0 lo=0/\HT.sIx xs.length xs.length hi=xs.length)/\∀ p,H p=Rl->Q (.ref p) (upd H p (.tup (uy xs lo hi)))
theorem Bs:SlR X (Pq X.K):=by
 intro pins s σ H x v vl vu lo hi sl Q I rx hs pl pu h;obtain⟨a,xs,rfl,hx,hw,q⟩:=h;cases rx;obtain⟨its,r,ht,hz⟩:=I.tuple hx;have hlen:its.toArray.size=xs.length:=by rw[ao];exact r.length.symm
 refine⟨"tuple",_,ba.lookup,ht.typeIs,?_⟩;refine HT.rA ht hs pl pu (by rw[hlen];exact hw) ?_ (by rw[hlen];exact hz);rw[hlen];refine⟨.ref s.heap.objs.size,_,I.laid (t':=s.toks) (o:=.tup (uy xs lo hi)) (λ b ob q=>ag _ q) (ar _) ?_,rfl,q _ (I.hok.fresh (ar _))⟩;exact⟨⟨bA (ua xs lo hi) hz,_,aE _ rfl,rfl⟩,_,(r.drop (HT.sIx xs.length 0 lo)).take (HT.sIx xs.length xs.length hi-HT.sIx xs.length 0 lo),IsTup.new _ _⟩
def Pr (K:gG):R2:=λ x y H Q=>∃ a b ns ms,x=.ref a/\y=.ref b/\SqT K H a (ns.map V.int)/\SqT K H b (ms.map V.int)/\Q (.bl (HT.lexLt ns ms)) H
theorem Lb (hu:X.A.units<cLine):OpR X (compareOp .Lt) (Pr X.K):=by intro pins s σ H x y v u Q I rx ry h;obtain⟨a,b,ns,ms,rfl,rfl,ha,hb,q⟩:=h;cases rx;cases ry;obtain⟨its,r1,p1,_⟩:=I.tuple ha;obtain⟨its2,r2,p2,_⟩:=I.tuple hb;have i1:IntsAre its.toArray.toList ns:=intsAre_of r1;have i2:IntsAre its2.toArray.toList ms:=intsAre_of r2;exact HT.Bp p1 p2 i1 i2 hu ⟨.bl (HT.lexLt ns ms),H,I,rfl,q⟩
def Nf (K:gG):R2:=λ x y H Q=>∃ a b xs ys,x=.ref a/\y=.ref b/\SqT K H a xs/\SqT K H b ys/\xs≠[]/\xs.length+ys.length<=sizeLine /\
 (ys=[]->Q (.ref a) H)/\(ys≠[]->∀ p,H p=Rl->Q (.ref p) (upd H p (.tup (xs++ys))))
theorem Vals.yB {xs:List V}{us:List gH}(r:Vals xs us):us=[]↔xs=[]:=by
 cases r with
 | nil=>simp
 | cons _ _=>simp
theorem HG:OpR X (binaryOp .Add) (Nf X.K):=by intro pins s σ H x y v u Q I rx ry h;obtain⟨a,b,xs,ys,rfl,rfl,ha,hb,hx,hz,q1,q2⟩:=h;cases rx;cases ry;obtain⟨its,r1,p1,_⟩:=I.tuple ha;obtain⟨its2,r2,p2,_⟩:=I.tuple hb;refine HT.HE p1 p2 (λ z=>hx (r1.yB.mp z)) (λ z=>⟨.ref a,H,I,rfl,q1 (r2.yB.mp z)⟩) (λ z=>?_) (by rw[<-r1.length,<-r2.length];exact hz);refine⟨.ref s.heap.objs.size,_,I.laid (t':=s.toks) (o:=.tup (xs++ys)) (λ b ob q=>ag _ q) (ar _) ?_,rfl,q2 (λ w=>z (r2.yB.mpr w)) _ (I.hok.fresh (ar _))⟩;exact⟨⟨by rw[aC];exact hz,_,aE _ rfl,rfl⟩,_,r1.append r2,IsTup.new _ _⟩
end
def ixN (n:Nat)(i:Int):gF Nat:=if 0<=i then (if i<n then My i.toNat else Rl) else if -(n:Int)<=i then My (i+n).toNat else Rl
def atI {α:Type}(xs:List α)(i:Int):gF α:=(ixN xs.length i).bind λ j=>xs[j]?
theorem Cu {n:Nat}{i:Int}{j:Nat}(h:ixN n i=My j):seqIndex? i n=My j/\j<n/\-(n:Int)<=i/\i<n:=by
 unfold ixN at h;by_cases h0:0<=i
 ·rw[ai h0]at h
  by_cases h1:i<n
  ·rw[ai h1]at h;have e:i.toNat=j:=ak h;exact⟨by rw[seqIndex_of h0 h1,e],by lia,by lia,h1⟩
  ·rw[aq h1]at h;cases h
 ·rw[aq h0]at h
  by_cases h1:-(n:Int)<=i
  ·rw[ai h1]at h;have e:(i+n).toNat=j:=ak h;exact⟨by rw[seqIndex_neg (by lia) h1,e],by lia,h1,by lia⟩
  ·rw[aq h1]at h;cases h
theorem Cv {α:Type}{xs:List α}{i:Int}{v:α}(h:atI xs i=My v):∃ j,seqIndex? i xs.length=My j/\xs[j]?=My v/\j<xs.length/\-(xs.length:Int)<=i/\i<xs.length:=by
 unfold atI at h;cases e:ixN xs.length i with
 | none=>rw[e]at h;cases h
 | some j =>rw[e]at h;obtain⟨h1,h2,h3,h4⟩:=Cu e;exact⟨j,h1,h,h2,h3,h4⟩
theorem lR {α:Type}{xs:List α}{j:Nat}{v:α}(h:xs[j]?=My v):atI xs (j:Int)=My v:=by
 have hj:j<xs.length:=(aL.mp h).1;have e:ixN xs.length (j:Int)=My j:=by unfold ixN;rw[ai (by lia),ai (by lia)];simp
 unfold atI;rw[e];exact h
def Cw (b:Expr):Prop:=∀ o i,subscripted b Rn o i=operate [o,i] (getItem o i)
def IxR (X:Cx)(r:R2):Prop :=
 ∀ (value slice:Expr) (pins:gL) (s:gJ) (σ:St) (H:Hp) (x y:V) (v u:gH) (Q:VK),Inv X pins σ H s->RelV x v->RelV y u->r x y H Q ->
  subscripted slice Rn v u=operate [v,u] (getItem v u)->wpAny (model X.prog X.w) X.A (subscriptTail value slice v u) (EP X pins σ Q) X.xe s
def MtR (X:Cx)(id:String)(r:V->List V->Hp->VK->Prop):Prop :=
 ∀ (pins:gL) (s:gJ) (σ:St) (H:Hp) (x:V) (xs:List V) (v:gH) (us:List gH) (Q:VK),Inv X pins σ H s->RelV x v->Vals xs us->r x xs H Q ->
  wpAny (model X.prog X.w) X.A (call (.builtin id) (v::us)) (EP X pins σ Q) X.xe s
section
variable {X:Cx}{a b:Expr}{ta tb:TE}{pos:Pos}
theorem lu {r:R2}(hr:IxR X r)(ha:PE X a ta)(hb:PE X b tb)(hs:Cw b):PE X (.Subscript a b pos) (tOp r ta tb):=by intro pins s σ H Q I h;exact Subscript_ (KZ ha hb I h λ v u s2 x y H2 I2 rx ry q=>hr a b pins s2 σ H2 x y v u Q I2 rx ry q (hs _ _))
def pF (K:gG):R2:=λ x y H Q=>∃ p xs i v,x=.ref p/\y=.int i/\SqL K H p xs/\atI xs i=My v/\Q v H
def HH (K:gG):R2:=λ x y H Q=>∃ p xs i v,x=.ref p/\y=.int i/\SqT K H p xs/\atI xs i=My v/\Q v H
theorem kz:IxR X (pF X.K):=by
 intro value slice pins s σ H x y v u Q I rx ry h hs;obtain⟨p,xs,i,z,rfl,rfl,hq,he,q⟩:=h;cases rx;obtain⟨t,rfl⟩:=ry;obtain⟨its,r,pl,hz⟩:=I.list hq;obtain⟨j,h1,h2,h3,h4,h5⟩:=Cv he;obtain⟨w,ew,rw'⟩:=r.get h2;have hl:=r.length;have hn:=qL;have fin:EP X pins σ Q w s:=⟨z,H,I,rw',q⟩;by_cases h0:0<=i
 ·have hj:i.toNat=j:=by
   rw[seqIndex_of h0 h5]at h1;exact ak h1
  exact item_listR pl.isList h0 (by lia) (by rw[hj];simpa using ew) fin hs
 ·have hj:(i+(its.toArray.size:Int)).toNat=j:=by
   rw[seqIndex_neg (by lia) h4]at h1;rw[ao,<-hl];exact ak h1
  exact subscriptTail_builtinR (x:=w) pl.isList.typeIs slot_list_getitem.lookup
   (wpAny_getItem_list_neg (Q:=λ r s'=>r=w/\EP X pins σ Q r s') pl.isList (by lia) (by rw[ao]<;>lia) (by lia) (by rw[hj];simpa using ew) ⟨rfl,fin⟩) hs
theorem qM:IxR X (HH X.K):=by
 intro value slice pins s σ H x y v u Q I rx ry h hs;obtain⟨p,xs,i,z,rfl,rfl,hq,he,q⟩:=h;cases rx;obtain⟨t,rfl⟩:=ry;obtain⟨its,r,pl,hz⟩:=I.tuple hq;obtain⟨j,h1,h2,h3,h4,h5⟩:=Cv he;obtain⟨w,ew,rw'⟩:=r.get h2;have hl:=r.length;have hn:=qL;have fin:EP X pins σ Q w s:=⟨z,H,I,rw',q⟩;exact subscriptTail_builtinR (x:=w) pl.typeIs slot_tuple_getitem.lookup
  (getItem_tuple (j:=j) (Q:=λ r s'=>r=w/\EP X pins σ Q r s') pl (by lia) (by lia) (by rw[ao,<-hl];exact h1) (by simpa using ew) ⟨rfl,fin⟩) hs
theorem Bt (its:List gH)(n j:Nat)(u:gH):Obj.mapSeq (·.setIfInBounds j u) {cls:=.type "list",data:=.seq its.toArray n}={cls:=.type "list",data:=.seq (its.set j u).toArray n}:=by simp[Obj.mapSeq]
theorem Inv.lst {pins:gL}{σ:St}{H:Hp}{s:gJ}{p:Addr}{xs:List V}(I:Inv X pins σ H s)(h:H p=My (.lst xs)) :
  ∃ (its:List gH) (n:Nat),Vals xs its/\s.heap.get? p=My {cls:=.type "list",data:=.seq its.toArray n}/\xs.length<=sizeLine:=by
 obtain⟨z,its,n,r,e⟩:=I.hok p _ h;exact⟨its,n,r,e,z⟩
theorem Inv.Lc {pins:gL}{σ:St}{H:Hp}{s:gJ}{p:Addr}{xs ys:List V}{its its':List gH}{n n':Nat}{f:Obj->Obj}(I:Inv X pins σ H s)(h:H p=My (.lst xs))
  (ho:s.heap.get? p=My {cls:=.type "list",data:=.seq its.toArray n}) (hf:f {cls:=.type "list",data:=.seq its.toArray n}={cls:=.type "list",data:=.seq its'.toArray n'}) (r:Vals ys its') (hz:ys.length<=sizeLine) (t:Nat) :
  Inv X pins σ (upd H p (.lst ys)) {s with heap:=s.heap.update p f,toks:=t}:=by
 have e:(s.heap.update p f).get? p=My {cls:=.type "list",data:=.seq its'.toArray n'}:=by rw[c_ f ho (by rw[hf]<;>rfl),hf]
 refine I.write (x:=p) (e:=p) (by rw[h];trivial) (.inl rfl) (λ b u hb q=>(Heap.get?_update_other _ _ (bj hb)).trans q) ⟨_,e⟩ ?_;exact⟨hz,its',n',r,e⟩
def EM:V->V->V->Hp->(Hp->Prop)->Prop:=λ o i v H Q=>∃ p xs k j,o=.ref p/\i=.int k/\H p=My (.lst xs)/\ixN xs.length k=My j/\Q (upd H p (.lst (xs.set j v)))
theorem set_list:M9 X EM:=by
 intro pins s σ H o i v ov iv u Q I ro ri rv h;obtain⟨p,xs,k,j,rfl,rfl,hp,hj,q⟩:=h;cases ro;obtain⟨t,rfl⟩:=ri;obtain⟨its,n,r,ho,hz⟩:=I.lst hp;obtain⟨h1,h2,h3,h4⟩:=Cu hj;have hl:=r.length;have hn:=qL;have I':Inv X pins σ (upd H p (.lst (xs.set j v))) {s with heap:=s.heap.update p (Obj.mapSeq (·.setIfInBounds j u))} :=
  I.Lc hp ho (Bt its n j u) (r.set rv j) (by rw[List.length_set];exact hz) s.toks
 by_cases h0:0<=k
 ·have hk:k.toNat=j:=by
   rw[seqIndex_of h0 h4]at h1;exact ak h1
  exact PySem.W.ki_setAt ho h0 (by lia) (by rw[ao,<-hl];exact h4) (by rw[hk];exact⟨_,I',q⟩)
 ·have hk:(k+(its.toArray.size:Int)).toNat=j:=by
   rw[seqIndex_neg (by lia) h3]at h1;rw[ao,<-hl];exact ak h1
  exact PySem.W.ki_setBack ho (by lia) (by rw[ao,<-hl];exact h3) (by lia) (by rw[hk];exact⟨_,I',q⟩)
theorem yC (lo hi:gF Int)(n:Nat):(sliceBounds lo hi Rl n).1=((HT.sIx n 0 lo:Nat):Int)/\(sliceBounds lo hi Rl n).2.1=((HT.sIx n n hi:Nat):Int)/\(sliceBounds lo hi Rl n).2.2=1:=by
 refine⟨?_,?_,rfl⟩
 ·cases lo with
  | none=>simp[sliceBounds,HT.sIx]
  | some i =>
   simp only[sliceBounds,HT.sIx,Option.getD_none,show(1:Int)>0 by decide,dU];by_cases h:i<0
   ·simp only[h,dU]<;>lia
   ·simp only[h,cp]<;>lia
 ·cases hi with
  | none=>simp[sliceBounds,HT.sIx]
  | some i =>
   simp only[sliceBounds,HT.sIx,Option.getD_none,show(1:Int)>0 by decide,dU];by_cases h:i<0
   ·simp only[h,dU]<;>lia
   ·simp only[h,cp]<;>lia
theorem xa (its:List gH)(lo hi:gF Int):slicePick its.toArray lo hi Rl=((its.drop (HT.sIx its.length 0 lo)).take (HT.sIx its.length its.length hi-HT.sIx its.length 0 lo)).toArray:=by obtain⟨h1,h2,h3⟩:=yC lo hi its.toArray.size;unfold slicePick;rw[h1,h2,h3];simp only[sliceRange_one,pick_run,ao]<;>rfl
def Pt (K:gG):V->gF Int->gF Int->Hp->VK->Prop:=λ x lo hi H Q=>∃ a xs,x=.ref a/\SqL K H a xs/\∀ p,H p=Rl->Q (.ref p) (upd H p (.lst (uy xs lo hi)))
theorem O9:SlR X (Pt X.K):=by intro pins s σ H x v vl vu lo hi sl Q I rx hs pl pu h;obtain⟨a,xs,rfl,hx,q⟩:=h;cases rx;obtain⟨its,r,ht,hz⟩:=I.list hx;have hlen:=r.length;refine⟨"list",_,slot_list_getitem.lookup,ht.isList.typeIs,?_⟩;refine wpAny_getItem_list_slice ht.isList hs pl pu .none (by simp) ?_ (by rw[ao]<;>lia);rw[xa,<-hlen];refine⟨.ref s.heap.objs.size,_,I.laid (t':=s.toks) (o:=.lst (uy xs lo hi)) (λ b ob q=>ag _ q) (ar _) ?_,rfl,q _ (I.hok.fresh (ar _))⟩;exact⟨bA (ua xs lo hi) hz,_,0,(r.drop (HT.sIx xs.length 0 lo)).take (HT.sIx xs.length xs.length hi-HT.sIx xs.length 0 lo),aE _ rfl⟩
theorem lx:jq X (.builtin "len") (λ xs H Q=>∃ p ys,xs=[.ref p]/\(SqL X.K H p ys\/SqT X.K H p ys)/\Q (.int ys.length) H):=by
 intro pins s σ H xs us Q I r h;obtain⟨p,ys,rfl,hq,q⟩:=h;obtain⟨u,rfl,rx⟩:=vals1 r;cases rx;have hn:=qL;rcases hq with hq | hq
 ·obtain⟨its,r',pl,hz⟩:=I.list hq;have hlen:=r'.length;exact Calls.call_len_list pl.isList (by simp only[ao]<;>lia) ⟨.int ys.length,H,I.tok _,⟨s.toks+1,by rw[ao,hlen]⟩,q⟩
 ·obtain⟨its,r',pl,hz⟩:=I.tuple hq;have hlen:=r'.length;exact len_tuple pl (by simp only[ao]<;>lia) ⟨.int ys.length,H,I.tok _,⟨s.toks+1,by rw[ao,hlen]⟩,q⟩
theorem yD:jq X (.type "list") (λ xs H Q=>∃ p ys,xs=[.ref p]/\(SqL X.K H p ys\/SqT X.K H p ys)/\∀ l,H l=Rl->Q (.ref l) (upd H l (.lst ys))):=by
 intro pins s σ H xs us Q I r h;obtain⟨p,ys,rfl,hq,q⟩:=h;obtain⟨u,rfl,rx⟩:=vals1 r;cases rx;have fin:∀ (its:List gH),Vals ys its->ys.length<=sizeLine->∀ (h':Heap) (c':Nat),(∀ b o',s.heap.get? b=My o'->h'.get? b=My o') ->
   h'.get? s.heap.objs.size=My {cls:=.type "list",dict:=Rl,data:=.seq its.toArray c',slots:=#[]}->EP X pins σ Q (.ref s.heap.objs.size) {s with heap:=h'}:=λ its r' hz h' c' kp e =>
  ⟨.ref s.heap.objs.size,_,I.laid (t':=s.toks) kp (ar _) (show jm X.prog X.w _ h' _ (.lst ys) from ⟨hz,its,c',r',e⟩),rfl,q _ (I.hok.fresh (ar _))⟩
 rcases hq with hq | hq
 ·obtain⟨its,r',pl,hz⟩:=I.list hq;have hlen:=r'.length;obtain⟨o,ho,hc,n,hd⟩:=pl.isList;exact call_list_seq p (.inl rfl) ho hc hd (λ h' c' kp e=>fin its r' hz h' c' kp e) (by simp only[ao]<;>lia)
 ·obtain⟨its,r',pl,hz⟩:=I.tuple hq;have hlen:=r'.length;obtain⟨o,ho,hc,n,hd⟩:=pl;exact call_list_seq p (.inr rfl) ho hc hd (λ h' c' kp e=>fin its r' hz h' c' kp e) (by simp only[ao]<;>lia)
theorem qz:jq X (.type "tuple") (λ xs H Q=>∃ p ys,xs=[.ref p]/\((SqL X.K H p ys/\∀ l,H l=Rl->Q (.ref l) (upd H l (.tup ys)))\/(SqT X.K H p ys/\Q (.ref p) H))):=by
 intro pins s σ H xs us Q I r h;obtain⟨p,ys,rfl,h⟩:=h;obtain⟨u,rfl,rx⟩:=vals1 r;cases rx;rcases h with⟨hq,q⟩ | ⟨hq,q⟩
 ·obtain⟨its,r',pl,hz⟩:=I.list hq
  have hlen:=r'.length;refine call_tuple_list pl.isList (λ h' kp=>?_) (by simp only[ao]<;>lia);have I1:Inv X pins σ H {s with heap:=h'}:=I.kept (t':=s.toks) kp;have I2:Inv X pins σ (upd H h'.objs.size (.tup ys)) {s with heap:=h'.push {cls:=.type "tuple",data:=.seq its.toArray}} :=
   I1.laid (t':=s.toks) (λ b o e=>ag _ e) (ar _) (show jm X.prog X.w _ _ _ (.tup ys) from ⟨⟨hz,_,aE _ rfl,rfl⟩,its,r',IsTup.new _ _⟩)
  exact⟨.ref h'.objs.size,_,I2,rfl,q _ (I1.hok.fresh (ar _))⟩
 ·obtain⟨its,r',pl,hz⟩:=I.tuple hq;exact call_tuple_same pl ⟨.ref p,H,I,rfl,q⟩
def tyV (K:gG)(T:String)(x:V)(H:Hp):Prop:=match x with
 | .str _=>T="str"
 | .int _=>T="int"
 | .ref p=>(T="list"/\∃ xs,SqL K H p xs)\/(T="tuple"/\∃ o,K.lookup p=My o/\o.cls=.type "tuple"/\o.dict=Rl) \/
   (T="dict"/\((∃ kvs,H p=My (.dK kvs))\/∃ kvs,H p=My (.dT kvs)))\/(T="set"/\∃ S n,H p=My (.set S n))
 | _=>False
theorem Ld {pins:gL}{σ:St}{H:Hp}{s:gJ}{T:String}{x:V}{v:gH}(I:Inv X pins σ H s)(r:RelV x v)(ty:tyV X.K T x H) :
  s.TypeIs v T/\∀ a,v=.ref a->∃ ob,s.heap.get? a=My ob/\ob.dict=Rl:=by
 cases x with
 | str z =>obtain⟨t,rfl⟩:=r;cases (show T="str" from ty);exact⟨typeIs_str s z t,λ _ e=>nomatch e⟩
 | int i =>obtain⟨t,rfl⟩:=r;cases (show T="int" from ty);exact⟨typeIs_int s i t,λ _ e=>nomatch e⟩
 | ref p =>
  cases r;rcases ty with⟨rfl,xs,hq⟩ | ⟨rfl,o,hk,hc,hd⟩ | ⟨rfl,hk⟩ | ⟨rfl,S,n,hk⟩
  ·obtain⟨its,_,pl,_⟩:=I.list hq;refine⟨pl.isList.typeIs,λ a e=>?_⟩;cases e;obtain⟨o,n,e,c,hd,_⟩:=pl;exact⟨o,e,hd⟩
  ·refine⟨⟨o,I.kIn p o hk,hc⟩,λ a e=>?_⟩;cases e;exact⟨o,I.kIn _ o hk,hd⟩
  ·have z:∃ o,s.heap.get? p=My o/\o.ExactDict:=by
    rcases hk with⟨kvs,hk⟩ | ⟨kvs,hk⟩
    ·obtain⟨_,_,_,_,o,_,_,e,ex,_⟩:=I.hok p _ hk;exact⟨o,e,ex⟩
    ·obtain⟨_,_,_,_,o,_,_,e,ex,_⟩:=I.hok p _ hk;exact⟨o,e,ex⟩
   obtain⟨o,e,ex⟩:=z;refine⟨⟨o,e,ex.1⟩,λ a e2=>?_⟩;cases e2;exact⟨o,e,ex.2.1⟩
  ·obtain⟨o,_,_,_,e,ex,_⟩:=I.hok p _ hk;refine⟨⟨o,e,ex.1⟩,λ a e2=>?_⟩;cases e2;exact⟨o,e,ex.2.1⟩
 | _=>exact False.elim ty
def tBM (K:gG)(T:String)(r:V->List V->Hp->VK->Prop)(to:TE)(t:TA):TE:=λ σ H Q=>to σ H λ x H1=>tyV K T x H1/\t σ H1 λ xs H2=>r x xs H2 Q
variable {o e:Expr}{es:List Expr}{to:TE}{t:TA}{name:Str}{apos cpos:Pos}{T id:String}{r:V->List V->Hp->VK->Prop}
theorem xI (pa:PlainAttrs T)(slot:Slot T name id)(hty:typeOf (.builtin id)=pure (.type "method_descriptor"))(hm:MtR X id r)(ho:PE X o to)(ha:PA X (e::es) t)
  (hbase:attributeBase o name X.env (eval o X.env)=eval o X.env:=by rfl)
  (hfew:((backTo cpos (starEach (e::es) X.env)).all (λ x=>!x.1)&&(backToKw cpos (keywordEach [] X.env)).all (λ x=>x.1.isSome)
   && decide ((e::es).length+([]:List Keyword).length+(if ([]:List Keyword).isEmpty then 0 else 1)<30))=Rm:=by rfl)
  (hline:(apos.endLine==cpos.line)=Rm:=by rfl) (hs:starEach (e::es) X.env=(Rn,eval e X.env)::starEach es X.env:=by rfl) (hplain:(backTo cpos (starEach es X.env)).any (·.1)=Rn:=by rfl) :
  PE X (.Call (.Attribute o name apos) (e::es) [] cpos) (tBM X.K T r to t):=by
 intro pins s σ H Q I h;refine wpAny_Call_method_late hbase hfew hline rfl (thn (ho pins s σ H _ I h) λ v s1 ⟨x,H1,I1,r1,ty,q1⟩=>?_);obtain⟨h1,h2⟩:=Ld I1 r1 ty;refine⟨T,id,pa,slot,hty,h1,h2,?_⟩;have hA:=ha cpos pins s1 σ H1 _ I1 q1;rw[hs]at hA ⊢;refine Calls.callWith_builtin (by show(Rn || (backTo cpos (starEach es X.env)).any (·.1))=Rn;rw[hplain]<;>rfl) (Calls.evalArgs_plain ?_);exact thn hA λ us s2 ⟨vs,H2,I2,r2,q2⟩=>hm pins s2 σ H2 x vs v us Q I2 r1 r2 q2
end
def MtM (X:Cx)(id:String)(r:V->List V->Hp->VK->Prop):Prop :=
 ∀ (pins:gL) (s:gJ) (σ:St) (H:Hp) (x:V) (xs:List V) (v:gH) (us:List gH) (Q:VK),Inv X pins σ H s->RelV x v->Vals xs us->r x xs H Q ->
  wpAny (model X.prog X.w) X.A (call (.builtin id) (v::us)) (EP X pins σ Q) X.xe s
theorem Vals.one:∀ {x:V} {us:List gH},Vals [x] us->∃ u,us=[u]/\RelV x u
 := by
 intro x us h;cases h with
 | cons r q=>cases q;exact⟨_,rfl,r⟩
theorem Vals.eraseIdx:∀ {xs:List V} {us:List gH} (i:Nat),Vals xs us->Vals (xs.eraseIdx i) (us.eraseIdx i)
 | _,_,_,.nil=>.nil
 | _,_,0,.cons _ t=>t
 | _,_,i+1,.cons r t=>.cons r (Vals.eraseIdx i t)
theorem Vals.rep {xs:List V}{us:List gH}(h:Vals xs us):∀ k:Nat,Vals (Rp k xs).flatten (Rp k us).flatten
 | 0=>.nil
 | k+1=>by rw[cF,cF,dX,dX];exact Vals.append h (Vals.rep h k)
theorem xJ {α:Type}:∀ (l:List α) (i:Nat),(l.eraseIdx i).length<=l.length
 | [],_=>ar _
 | _::_,0=>gy _
 | _::r,i+1=>Nat.succ_le_succ (xJ r i)
theorem foldl_rep (its:List gH):∀ (k:Nat) (acc:List gH),
  List.foldl (λ x1 x2=>x1++x2) acc.toArray (Rp k its.toArray)=(acc++(Rp k its).flatten).toArray
 | 0,acc=>by simp
 | k+1,acc=>by
  have e:acc.toArray++its.toArray=(acc++its).toArray:=by simp
  have e2:(acc++its)++(Rp k its).flatten=acc++(Rp (k+1) its).flatten:=by rw[cF,dX,cw]
  rw[<-e2,<-foldl_rep its k (acc++its),<-e,cF,cH]
section
variable {X:Cx}{pins:gL}{σ:St}{H:Hp}{s:gJ}{l b:Addr}{xs ys zs:List V}
theorem Inv.Le {its its':List gH}{n:Nat}{f:Array gH->Array gH}{t':Nat}(I:Inv X pins σ H s)(hH:H l=My (.lst xs))
  (e:s.heap.get? l=My {cls:=.type "list",data:=.seq its.toArray n}) (hf:f its.toArray=its'.toArray) (hv:Vals ys its') (hz:ys.length<=sizeLine) :
  Inv X pins σ (upd H l (.lst ys)) {s with heap:=s.heap.update l (Obj.mapSeq f),toks:=t'}:=by
 have q:=PySem.IsL.update e f;rw[hf]at q;refine I.write (x:=l) (e:=l) (by rw[hH];exact trivial) (.inl rfl) (λ b' u hb hu=>(Heap.get?_update_other s.heap (Obj.mapSeq f) (bj hb)).trans hu) ⟨_,q⟩ ?_;exact⟨hz,its',_,hv,q⟩
theorem Inv.Ng {its:List gH}{t':Nat}(I:Inv X pins σ H s)(hv:Vals ys its)(hz:ys.length<=sizeLine) :
  Inv X pins σ (upd H s.heap.objs.size (.lst ys)) {s with heap:=s.heap.push {cls:=.type "list",data:=.seq its.toArray},toks:=t'} :=
 I.laid (λ _ _ q=>ag _ q) (ar _) ⟨hz,its,0,hv,aE _ rfl⟩
theorem Inv.fresh (I:Inv X pins σ H s):H s.heap.objs.size=Rl:=I.hok.fresh (ar _)
theorem Inv.Bu (I:Inv X pins σ H s)(hH:H l=My (.lst xs)):xs.length<=sizeLine/\∃ (its:List gH) (n:Nat),Vals xs its/\xs.length=its.length/\s.heap.get? l=My {cls:=.type "list",data:=.seq its.toArray n}:=by obtain⟨z,its,n,r,e⟩:=I.hok l _ hH;exact⟨z,its,n,r,r.length,e⟩
theorem zS {n:Nat}(h:n<=sizeLine):Builtin.List.listTooLong n=Rn:=by unfold Builtin.List.listTooLong;exact decide_eq_false (by lia)
end
section
variable {X:Cx}
def uM:V->List V->Hp->VK->Prop:=λ x vs H Q=>∃ l xs y,x=.ref l/\vs=[y]/\H l=My (.lst xs)/\xs.length<sizeLine/\Q .non (upd H l (.lst (xs++[y])))
theorem tm:MtM X "list.append" uM:=by intro pins s σ H x vs v us Q I rx rv h;obtain⟨l,xs,y,rfl,rfl,hH,hz,q⟩:=h;cases rx;obtain⟨u,rfl,ru⟩:=rv.one;obtain⟨z,its,n,r,hl,e⟩:=I.Bu hH;refine call_meets F.slot_list_append ⟨_,e,rfl⟩ F.entry_list_append (F.args_list_append_2 _ _) (PySem.list_append l its.toArray n u (by rw[ao];lia)) ⟨e,?_⟩;refine⟨.non,_,I.Le (its':=its++[u]) hH e (by simp) (r.append (.cons ru .nil)) ?_,rfl,q⟩;rw[aC,aZ];lia
def HI:V->List V->Hp->VK->Prop:=λ x vs H Q=>∃ l b xs zs,x=.ref l/\vs=[.ref b]/\H l=My (.lst xs)/\H b=My (.lst zs)/\xs.length+zs.length<=sizeLine/\Q .non (upd H l (.lst (xs++zs)))
theorem M4:MtM X "list.extend" HI:=by
 intro pins s σ H x vs v us Q I rx rv h;obtain⟨l,b,xs,zs,rfl,rfl,hH,hB,hz,q⟩:=h;cases rx;obtain⟨u,rfl,ru⟩:=rv.one;cases ru;obtain⟨z,its,n,r,hl,e⟩:=I.Bu hH;obtain⟨z2,its2,n2,r2,hl2,e2⟩:=I.Bu hB;have hsz:its.toArray.size+its2.toArray.size<=sizeLine:=by rw[ao,ao];lia
 have hlong:¬ (!its.toArray.isEmpty&&Builtin.List.listTooLong (its.toArray.size+its2.toArray.size))=Rm:=by rw[zS hsz,fG];exact au
 refine call_meets F.slot_list_extend ⟨_,e,rfl⟩ F.entry_list_extend (F.args_list_extend_2 _ _)
  (AutoSeq1.list_extend_list_list_0 l its.toArray n b its2.toArray n2 hlong (by rw[ao];lia) (by lia)) ⟨e,e2,?_⟩
 refine⟨.non,_,I.Le (its':=its++its2) hH e (by simp) (r.append r2) ?_,rfl,q⟩;rw[aC];lia
def Bv:V->List V->Hp->VK->Prop:=λ x vs H Q=>∃ l xs i k y,x=.ref l/\vs=[.int i]/\H l=My (.lst xs)/\-(2 ^ 63)<=i/\i<2 ^ 63/\seqIndex? i xs.length=My k/\xs[k]?=My y/\Q y (upd H l (.lst (xs.eraseIdx k)))
theorem EN:MtM X "list.pop" Bv:=by
 intro pins s σ H x vs v us Q I rx rv h;obtain⟨l,xs,i,k,y,rfl,rfl,hH,h1,h2,hk,hy,q⟩:=h;cases rx;obtain⟨u,rfl,ru⟩:=rv.one;obtain⟨t,rfl⟩:=ru;obtain⟨z,its,n,r,hl,e⟩:=I.Bu hH;obtain⟨w,hw,rw'⟩:=r.get hy;refine call_meets F.slot_list_pop ⟨_,e,rfl⟩ F.entry_list_pop (F.args_list_pop_2 _ _)
  (MeetsSeq.list_pop_at l its.toArray n i t k w (fitsIndex_both h1 h2) (by rw[ao,<-hl];exact hk) (by rw[<-bh];exact hw) (by rw[ao];lia)) ⟨e,?_⟩
 refine⟨y,_,I.Le (its':=its.eraseIdx k) hH e ?_ (r.eraseIdx k) ?_,rw',q⟩
 ·show its.toArray.eraseIdxIfInBounds k=(its.eraseIdx k).toArray;rw[List.eraseIdxIfInBounds_toArray]
 ·have:=xJ xs k;lia
def Pu:R2:=λ x y H Q=>∃ l b xs zs,x=.ref l/\y=.ref b/\H l=My (.lst xs)/\H b=My (.lst zs)/\xs.length+zs.length<=sizeLine/\∀ p,H p=Rl->Q (.ref p) (upd H p (.lst (xs++zs)))
theorem Lf:OpR X (binaryOp .Add) Pu:=by
 intro pins s σ H x y v u Q I rx ry h;obtain⟨l,b,xs,zs,rfl,rfl,hH,hB,hz,q⟩:=h;cases rx;cases ry;obtain⟨z,its,n,r,hl,e⟩:=I.Bu hH;obtain⟨z2,its2,n2,r2,hl2,e2⟩:=I.Bu hB;refine PySem.P.add_list e e2 ?_ (by rw[ao,ao];lia);have ea:its.toArray++its2.toArray=(its++its2).toArray:=by simp
 rw[ea];exact⟨.ref _,_,I.Ng (t':=s.toks) (r.append r2) (by rw[aC];lia),rfl,q _ I.fresh⟩
def Nh:R2:=λ x y H Q=>∃ l k xs,x=.ref l/\y=.int k/\H l=My (.lst xs)/\-(2 ^ 63)<=k/\k<2 ^ 63/\xs.length*k.toNat<=sizeLine /\
 ∀ p,H p=Rl->Q (.ref p) (upd H p (.lst (Rp k.toNat xs).flatten))
theorem len_rep {α:Type}(xs:List α)(k:Nat):(Rp k xs).flatten.length=k*xs.length:=by
 induction k with
 | zero=>simp
 | succ k ih=>rw[cF,dX,aC,ih,Nat.succ_mul,Nat.add_comm]
theorem EO:OpR X (binaryOp .Mult) Nh:=by
 intro pins s σ H x y v u Q I rx ry h;obtain⟨l,k,xs,rfl,rfl,hH,h1,h2,hz,q⟩:=h;cases rx;obtain⟨t,rfl⟩:=ry;obtain⟨z,its,n,r,hl,e⟩:=I.Bu hH;have hlen:its.toArray.size*k.toNat<=sizeLine:=by rw[ao,<-hl];exact hz
 have hcap:¬ its.toArray.size*k.toNat>(2 ^ 63-1) / 8:=by
  have:(sizeLine:Nat)<=(2 ^ 63-1) / 8:=by decide
  lia
 have hfit:¬ (!Builtin.List.listFitsIndex k)=Rm:=by rw[fitsIndex_both h1 h2];exact au
 have hlong:¬ Builtin.List.listTooLong (its.toArray.size*k.toNat)=Rm:=by rw[zS hlen];exact au
 have hnew:List.foldl (λ x1 x2=>x1++x2) #[] (Rp (if its.toArray.isEmpty=Rm then 0 else k.toNat) its.toArray)=(Rp k.toNat its).flatten.toArray:=by
  have f0:∀ m:Nat,List.foldl (λ x1 x2=>x1++x2) #[] (Rp m its.toArray)=(Rp m its).flatten.toArray:=λ m=>by have:=foldl_rep its m [];rw[List.nil_append]at this;exact this
  rw[f0];cases its with
  | nil=>simp
  | cons a r'=>rw[aq (by simp)]
 refine wpAny_binaryOp_repeat_ref (T:="list") (U:="int") (by decide) ⟨_,e,rfl⟩ (λ s'=>typeIs_int s' k t) noFill_list_mul F.fills_int_mul F.slot_int_rmul repeat_list F.slot_int_index.lookup
  (call_meets F.slot_int_rmul (typeIs_int s k t) F.entry_int_rmul (F.args_int_rmul_2 _ _) (int___rmul___int_list k t l its.toArray n)
   ⟨e,rfl,⟨_,e,rfl⟩,call_meets F.slot_list_mul ⟨_,e,rfl⟩ F.entry_list_mul (F.args_list_mul_2 _ _) (AutoListH.list___mul___list_int_3 l its.toArray n k t hfit hcap hlong) ⟨e,?_⟩⟩)
 rw[hnew];exact⟨.ref _,_,I.Ng (t':=s.toks) (r.rep k.toNat) (by rw[len_rep,Nat.mul_comm];exact hz),rfl,q _ I.fresh⟩
end
section
variable {prog:Program}{w:World}{A:Around}{E:gE}{s:gJ}
end
section
variable {X:Cx}
end
section
variable {κ:Type}[DecidableEq κ]
def mS (kvs:List (κ×V))(k:κ):gF V:=(kvs.find? λ kv=>decide (kv.1=k)).map (·.2)
def putK (kvs:List (κ×V))(k:κ)(v:V):List (κ×V) :=
 if (kvs.any λ kv=>decide (kv.1=k))=Rm then kvs.map (λ kv=>if kv.1=k then (kv.1,v) else kv) else kvs++[(k,v)]
theorem rB {p:κ×V}{r:List (κ×V)}{k:κ}(e:p.1=k):mS (p::r) k=My p.2:=by simp[mS,de,e]
theorem vh {p:κ×V}{r:List (κ×V)}{k:κ}(e:¬ p.1=k):mS (p::r) k=mS r k:=by simp[mS,de,e]
theorem vi (k:κ):∀ kvs:List (κ×V),(kvs.any λ kv=>decide (kv.1=k))=(mS kvs k).isSome
 | []=>rfl
 | p::r=>by
  rw[List.any_cons];by_cases e:p.1=k
  ·simp only[rB e,decide_eq_true e,Bool.true_or,Option.isSome_some]
  ·rw[vh e,decide_eq_false e,Bool.false_or];exact vi k r
theorem ng (kvs:List (κ×V))(k:κ)(v:V):(putK kvs k v).length<=kvs.length+1:=by
 unfold putK;split
 ·rw[ah];lia
 ·rw[aC,bX,dQ];lia
theorem ER {kvs:List (κ×V)}{k:κ}(v:V)(h:mS kvs k=Rl):putK kvs k v=kvs++[(k,v)]:=by unfold putK;rw[vi,h];exact aq (by decide)
theorem wX.tq {o:gF V}{u:gF gH}(r:wX o u):o.isSome=u.isSome:=by
 cases o with
 | none=>cases u with
  | none=>rfl
  | some _=>exact(show False from r).elim
 | some _=>cases u with
  | none=>exact(show False from r).elim
  | some _=>rfl
theorem KV.val {kvs:List (κ×V)}{vs:List (κ×gH)}(r:KV kvs vs)(k:κ):wX (mS kvs k) (valueAt vs k):=by
 unfold KV at r;induction r with
 | nil=>exact True.intro
 | @cons p q ps qs h t ih =>
  obtain⟨h1,h2⟩:=h;by_cases e:p.1=k
  ·have e':q.1=k:=h1.symm.trans e
   have b:valueAt (q::qs) k=My q.2:=by simp[valueAt,de,e']
   rw[rB e,b];exact h2
  ·have e':¬ q.1=k:=λ z=>e (h1.trans z)
   have b:valueAt (q::qs) k=valueAt qs k:=by simp[valueAt,de,e']
   rw[vh e,b];exact ih
theorem KV.any {kvs:List (κ×V)}{vs:List (κ×gH)}(r:KV kvs vs)(k:κ):(kvs.any λ kv=>decide (kv.1=k))=vs.any λ kv=>decide (kv.1=k):=by
 unfold KV at r;induction r with
 | nil=>rfl
 | cons h t ih=>rw[List.any_cons,List.any_cons,ih,h.1]
theorem KV.Lg {kvs:List (κ×V)}{vs:List (κ×gH)}(r:KV kvs vs)(k:κ){y:V}{u:gH}(ry:RelV y u) :
  KV (kvs.map λ kv=>if kv.1=k then (kv.1,y) else kv) (vs.map λ kv=>if kv.1=k then (kv.1,u) else kv):=by
 unfold KV at r ⊢;induction r with
 | nil=>exact .nil
 | @cons p q ps qs h t ih =>
  rw[aS,aS];refine .cons ?_ ih;obtain⟨h1,h2⟩:=h;by_cases e:p.1=k
  ·rw[ai e,ai (h1.symm.trans e)];exact⟨h1,ry⟩
  ·rw[aq e,aq (λ z=>e (h1.trans z))];exact⟨h1,h2⟩
theorem KV.put {kvs:List (κ×V)}{vs:List (κ×gH)}(r:KV kvs vs)(k:κ){y:V}{u:gH}(ry:RelV y u):KV (putK kvs k y) (stored vs k u):=by
 unfold putK stored;rw[r.any k];by_cases e:(vs.any λ kv=>decide (kv.1=k))=Rm
 ·rw[ai e,ai e];exact r.Lg k ry
 ·rw[aq e,aq e];exact fO r ⟨rfl,ry⟩
theorem KV.length {kvs:List (κ×V)}{vs:List (κ×gH)}(r:KV kvs vs):kvs.length=vs.length:=ef r
end
theorem zT {P:Program}{w:World}{k:Key}{u:gH}(r:RelV (kV k) u):(jC P w).is k u=Rm:=by
 cases k with
 | inl i=>obtain⟨t,e⟩:=(show ∃ t,u=Value.int i t from r);subst e;exact zI P w i t
 | inr x=>obtain⟨t,e⟩:=(show ∃ t,u=Value.str x t from r);subst e;exact zJ P w x t
theorem xK {P:Program}{w:World}:∀ {ks:List Key} {us:List gH},Vals (ks.map kV) us->ItemsAre (jC P w) ks us
 | [],_,r=>by rw[f7]at r;cases r;exact .nil
 | k::ks,_,r=>by
  rw[aS]at r;cases r with
  | cons h t=>exact .cons (zT h) (xK t)
abbrev KT (H:Hp):List (List Key×V)->List (List Key×Addr×gH)->Prop:=Paired λ p q=>p.1=q.1/\H q.2.1=My (.tup (p.1.map kV))/\RelV p.2 q.2.2
theorem KT.val {H:Hp}{kvs:List (List Key×V)}{xs:List (List Key×Addr×gH)}(r:KT H kvs xs)(k:List Key):wX (mS kvs k) ((atKey xs k).map (·.2)):=by
 induction r with
 | nil=>exact True.intro
 | @cons p q ps qs h t ih =>
  obtain⟨h1,_,h2⟩:=h;by_cases e:p.1=k
  ·have e':q.1=k:=h1.symm.trans e
   have b:atKey (q::qs) k=My q.2:=by simp[atKey,de,e']
   rw[rB e,b];exact h2
  ·have e':¬ q.1=k:=λ z=>e (h1.trans z)
   have b:atKey (q::qs) k=atKey qs k:=by simp[atKey,de,e']
   rw[vh e,b];exact ih
theorem KT.Lg {H:Hp}{kvs:List (List Key×V)}{xs:List (List Key×Addr×gH)}(r:KT H kvs xs)(k:List Key){y:V}{u:gH}(ry:RelV y u) :
  KT H (kvs.map λ kv=>if kv.1=k then (kv.1,y) else kv) (xs.map (putAt k u)):=by
 induction r with
 | nil=>exact .nil
 | @cons p q ps qs h t ih =>
  rw[aS,aS];refine .cons ?_ ih;obtain⟨h1,h2,h3⟩:=h;unfold putAt;by_cases e:p.1=k
  ·rw[ai e,ai (h1.symm.trans e)];exact⟨h1,h2,ry⟩
  ·rw[aq e,aq (λ z=>e (h1.trans z))];exact⟨h1,h2,h3⟩
theorem KT.put {H:Hp}{kvs:List (List Key×V)}{xs:List (List Key×Addr×gH)}(r:KT H kvs xs)(k:List Key){b:Addr}{y:V}{u:gH}(hb:H b=My (.tup (k.map kV)))(ry:RelV y u) :
  KT H (putK kvs k y) (storedH xs k b u):=by
 have e:(kvs.any λ kv=>decide (kv.1=k))=(atKey xs k).isSome:=by rw[vi,(r.val k).tq,Option.isSome_map]
 unfold putK storedH;rw[e];by_cases q:(atKey xs k).isSome=Rm
 ·rw[ai q,ai q];exact r.Lg k ry
 ·rw[aq q,aq q];exact fO r ⟨rfl,hb,ry⟩
theorem KT.keeps {H H':Hp}{kvs:List (List Key×V)}{xs:List (List Key×Addr×gH)}(r:KT H kvs xs)(ht:∀ b ys,H b=My (.tup ys)->H' b=My (.tup ys)):KT H' kvs xs :=
 Paired.Hv r λ _ _ z=>⟨z.1,ht _ _ z.2.1,z.2.2⟩
section
variable {P:Program}{w:World}{H:Hp}{h:Heap}{a:Addr}
theorem JY {u:HO}(ok:HOk P w H h)(e:Rd H a u):jm P w H h a u:=e.ok ok
theorem zU {kvs:List (Key×V)}(ok:HOk P w H h)(e:Rd H a (.dK kvs)):kvs.length<=sizeLine/\(a==sysModules)=Rn/\∃ vs,KV kvs vs/\h.DictOf (jC P w) a vs :=
 show jm P w H h a (.dK kvs) from JY ok e
theorem JZ {kvs:List (Key×V)}(ok:HOk P w H h)(e:H a=My (.dK kvs)):kvs.length<=sizeLine/\(a==sysModules)=Rn/\∃ vs,KV kvs vs/\h.DictOf (jC P w) a vs:=zU ok (.inl e)
theorem vj {ks:List Key}(ok:HOk P w H h)(e:H a=My (.tup (ks.map kV))):(tupleKind (jC P w)).is h ks a:=by obtain⟨_,its,r,o,h1,h2,n,h3⟩:=(show jm P w H h a (.tup (ks.map kV)) from ok a _ e);exact⟨o,its.toArray,n,h1,h2,h3,by simpa using xK r⟩
theorem Cy {kvs:List (List Key×V)}(ok:HOk P w H h)(e:Rd H a (.dT kvs)):kvs.length<=sizeLine/\(a==sysModules)=Rn /\
  ∃ xs,KT H kvs xs/\h.DictOfH (tupleKind (jC P w)) a xs:=by
 obtain⟨z,y,xs,r,o,es,ep,h1,h2,h3,h4,h5⟩:=(show jm P w H h a (.dT kvs) from JY ok e);refine⟨z,y,xs,r,o,es,ep,h1,h2,h3,h4,λ x hx=>?_,h5⟩;have all:∀ {l:List (List Key×V)} {m:List (List Key×Addr×gH)},KT H l m->∀ x∈m,(tupleKind (jC P w)).is h x.1 x.2.1:=by
  intro l m q;induction q with
  | nil=>intro x hx;exact nomatch hx
  | @cons p q ps qs hq t ih =>
   intro x hx;rcases ax.mp hx with e | hx
   ·subst e;exact vj ok (by rw[<-hq.1];exact hq.2.1)
   ·exact ih x hx
 exact all r x hx
theorem J0 {kvs:List (List Key×V)}(ok:HOk P w H h)(e:H a=My (.dT kvs)):kvs.length<=sizeLine/\(a==sysModules)=Rn /\
  ∃ xs,KT H kvs xs/\h.DictOfH (tupleKind (jC P w)) a xs:=Cy ok (.inl e)
end
def vm (H:Hp)(a:Addr)(y:V)(r:gF V):Prop :=
 (∃ kvs k,Rd H a (.dK kvs)/\y=kV k/\r=mS kvs k)\/∃ kvs k b,Rd H a (.dT kvs)/\y=.ref b/\H b=My (.tup (k.map kV))/\r=mS kvs k
def ES (H:Hp)(a:Addr)(y v:V)(H':Hp):Prop :=
 (∃ kvs k,H a=My (.dK kvs)/\y=kV k/\kvs.length<sizeLine/\H'=upd H a (.dK (putK kvs k v))) \/
 ∃ kvs k b,H a=My (.dT kvs)/\y=.ref b/\H b=My (.tup (k.map kV))/\kvs.length<sizeLine/\H'=upd H a (.dT (putK kvs k v))
theorem vm.k {H:Hp}{a:Addr}{kvs:List (Key×V)}{k:Key}(e:H a=My (.dK kvs)):vm H a (kV k) (mS kvs k):=.inl ⟨kvs,k,.inl e,rfl,rfl⟩
theorem ES.k {H:Hp}{a:Addr}{kvs:List (Key×V)}{k:Key}{v:V}(e:H a=My (.dK kvs))(hl:kvs.length<sizeLine):ES H a (kV k) v (upd H a (.dK (putK kvs k v))):=.inl ⟨kvs,k,e,rfl,hl,rfl⟩
section
variable {X:Cx}{pins:gL}{σ:St}{H:Hp}{s:gJ}{a:Addr}{y v:V}{u r:gH}{o:gF V}{A:Around}{E:gE}
theorem Inv.big (I:Inv X pins σ H s):sysModules<s.heap.objs.size:=by have h:mainGlobals<s.heap.objs.size:=(I.mod.glob.keeps I.bk).lt;exact Nat.lt_trans (by decide) h
theorem Dw {Q:gE}(hu:A.units+1<cLine)(I:Inv X pins σ H s)(g:vm H a y (My v))(ry:RelV y u)(h:∀ w' s',Inv X pins σ H s'->RelV v w'->Q w' s') :
  wpAny (model X.prog X.w) A (getItem (.ref a) u) Q E s:=by
 rcases g with⟨kvs,k,e,ey,l⟩ | ⟨kvs,k,b,e,ey,eb,l⟩
 ·subst ey;obtain⟨z,hd,vs,rel,dd⟩:=zU I.hok e;obtain⟨w',hw,rw'⟩:=wX.some_of (v:=v) (o:=valueAt vs k) (by rw[l];exact rel.val k);exact wpAny_getItem_of (zT ry) dd.mapOf hw (h w' _ (I.tok _) rw')
 ·subst ey;cases (show u=Value.ref b from ry);obtain⟨z,hd,xs,rel,dd⟩:=Cy I.hok e;obtain⟨w',hw,rw'⟩:=wX.some_of (v:=v) (o:=(atKey xs k).map (·.2)) (by rw[l];exact rel.val k);obtain⟨p,hp,hp2⟩:=Option.map_eq_some_iff.mp hw;refine wpAny_getItem_heap (tupleKind_room_in1 hu) (vj I.hok eb) dd hp ?_;rw[hp2];exact h w' _ (I.tok _) rw'
theorem HJ {Q:gE}(hu:A.units+1<cLine)(I:Inv X pins σ H s)(g:vm H a y o)(ry:RelV y u)(h:∀ s',Inv X pins σ H s'->Q (.bool (!o.isSome)) s') :
  wpAny (model X.prog X.w) A (compareOp .NotIn u (.ref a)) Q E s:=by
 rcases g with⟨kvs,k,e,ey,l⟩ | ⟨kvs,k,b,e,ey,eb,l⟩
 ·subst ey;obtain⟨z,hd,vs,rel,dd⟩:=zU I.hok e;refine wpAny_notIn_of (zT ry) hd dd.mapOf ?_;rw[<-(rel.val k).tq,<-l];exact h _ (I.tok _)
 ·subst ey;cases (show u=Value.ref b from ry);obtain⟨z,hd,xs,rel,dd⟩:=Cy I.hok e;refine wpAny_notIn_heap (tupleKind_room_in1 hu) (vj I.hok eb) hd dd ?_;have q:=(rel.val k).tq;rw[Option.isSome_map]at q;rw[<-q,<-l];exact h _ (I.tok _)
theorem uN {h':Heap}{t':Nat}{ob:HO}(I:Inv X pins σ H s)(mu:Mut (H a))(hs:Heap.SameBut a s.heap h')(he:∃ q,h'.get? a=My q)(new:jm X.prog X.w (upd H a ob) h' a ob) :
  Inv X pins σ (upd H a ob) {s with heap:=h',toks:=t'} :=
 I.write (x:=a) (e:=a) mu (.inl rfl) (λ b q hb z=>(hs.2 b hb).trans z) he new
theorem ET {P:Program}{w:World}{H':Hp}{h':Heap}{kvs:List (Key×V)}{vs:List (Key×gH)}(z:kvs.length<=sizeLine)(hd:(a==sysModules)=Rn)(rel:KV kvs vs)(dd:h'.DictOf (jC P w) a vs) :
  jm P w H' h' a (.dK kvs):=⟨z,hd,vs,rel,dd⟩
theorem Dx {H':Hp}{Q:Unit->gJ->Prop}(hu:A.units+1<cLine)(I:Inv X pins σ H s)(g:ES H a y v H')(ry:RelV y u)(rv:RelV v r)(h:∀ s',Inv X pins σ H' s'->Q () s') :
  wpAny (model X.prog X.w) A (setItem (.ref a) u r) Q E s:=by
 rcases g with⟨kvs,k,e,ey,l,eH⟩ | ⟨kvs,k,b,e,ey,eb,l,eH⟩
 ·subst ey eH
  obtain⟨z,hd,vs,rel,dd⟩:=JZ I.hok e;have hz:vs.length<=sizeLine:=by rw[<-rel.length];exact z
  have hl:(putK kvs k v).length<=sizeLine:=by have:=ng kvs k v;lia
  refine wpAny_setItem_pairs (hsz:=hz) (zT ry) dd λ h' dd' hs=>h _ ?_;have he:∃ q,h'.get? a=My q:=let ⟨q,_,_,hq,_⟩:=dd';⟨q,hq⟩;exact uN I (by rw[e];exact True.intro) hs he (ET hl hd (rel.put k rv) dd')
 ·subst ey eH
  cases (show u=Value.ref b from ry);obtain⟨z,hd,xs,rel,dd⟩:=J0 I.hok e;have hz:xs.length<=sizeLine:=by rw[<-ef rel];exact z
  have hl:(putK kvs k v).length<=sizeLine:=by have:=ng kvs k v;lia
  refine wpAny_setItem_heap (hsz:=hz) (tupleKind_room_in1 hu) (vj I.hok eb) dd λ h' dd' hs=>h _ ?_;obtain⟨q,es,ep,hq,h2,h3,h4,_,h5⟩:=dd';refine uN I (by rw[e];exact True.intro) hs ⟨q,hq⟩ ⟨hl,hd,_,(rel.put k eb rv).keeps λ c ys ec=>?_,q,es,ep,hq,h2,h3,h4,h5⟩;rw[g9 (JS ec e (λ z=>nomatch z))];exact ec
end
section
variable {X:Cx}{pins:gL}{σ:St}{H:Hp}{s:gJ}{a:Addr}{kvs:List (Key×V)}{k:Key}{u:gH}{A:Around}{E:gE}
theorem Ni {Q:gE}(I:Inv X pins σ H s)(e:Rd H a (.dK kvs))(h:∀ t s',Inv X pins σ H s'->Q (.int kvs.length t) s'):wpAny (model X.prog X.w) A (call (.builtin "len") [.ref a]) Q E s:=by obtain⟨z,hd,vs,rel,dd⟩:=zU I.hok e;refine call_len_dict hd dd (by rw[<-rel.length];rw[sizeLine_eq]at z;lia) ?_;rw[<-rel.length];exact h _ _ (I.tok _)
end
def Lh (i:Expr):Prop:=∀ ov iv,subscripted i Rn ov iv=operate [ov,iv] (getItem ov iv)
theorem HK {prog:Program}{w:World}{A:Around}{E:gE}{s:gJ}{env:Env}{value slice:Expr}{pos:Pos}{T id:String}{Q:gE}
  (hl:typeLookup (.type T) "__getitem__"=pure (My (.builtin id))) (hs:Lh slice)
  (h:wpAny (model prog w) A (eval value env) (λ o s₁=>wpAny (model prog w) A (eval slice env) (λ i s₂=>s₂.TypeIs o T/\wpAny (model prog w) A (getItem o i) Q E s₂) E s₁) E s) :
  wpAny (model prog w) A (eval (.Subscript value slice pos) env) Q E s:=by
 refine Subscript_ (cW h (λ o s₁ h₁=>cW h₁ (λ i s₂ h₂=>?_) λ _ _ x=>x) λ _ _ x=>x);obtain⟨hT,h₂⟩:=h₂;unfold subscriptTail;refine ae ?_;rw[getitemInPython_of_ne hT.not_modules];refine ae (wpAny_specialOf hT hl ?_);have fin:wpAny (model prog w) A (subscripted slice Rn o i) (λ r s₃=>wpAny (model prog w) A (letTemporaryGo value o r>>=λ _=>pure r) Q E s₃) E s₂:=by rw[hs o i];exact wpAny_operating (cW h₂ (λ r s₃ h₃=>ae (wpAny_letTemporaryGo (af h₃))) λ _ _ x=>x)
 first
  | exact af (ae fin)
  | exact ae (af (ae fin))
  | exact ae fin
theorem zV {X:Cx}{pins:gL}{σ:St}{H:Hp}{s:gJ}{a:Addr}{y:V}{o:gF V}(I:Inv X pins σ H s)(g:vm H a y o):s.TypeIs (.ref a) "dict":=by
 rcases g with⟨kvs,k,e,_,_⟩ | ⟨kvs,k,b,e,_,_,_⟩
 ·obtain⟨_,_,vs,_,dd⟩:=zU I.hok e;exact dd.typeIs
 ·obtain⟨_,_,xs,_,dd⟩:=Cy I.hok e;exact dd.typeIs
def J6 (td ty:TE):TE:=λ σ H Q=>td σ H λ x H1=>ty σ H1 λ y H2=>∃ a v,x=.ref a/\vm H2 a y (My v)/\Q v H2
def Cz (ty td:TE):TE:=λ σ H Q=>ty σ H λ y H1=>td σ H1 λ x H2=>∃ a o,x=.ref a/\vm H2 a y o/\Q (.bl (!o.isSome)) H2
def J9 (td ty tv:TE):TS:=λ D σ H=>tv σ H λ v H1=>td σ H1 λ x H2=>ty σ H2 λ y H3=>∃ a H4,x=.ref a/\ES H3 a y v H4/\D.nx σ H4
section
variable {X:Cx}{o i e value:Expr}{pos pos' tpos:Pos}{td ty tv:TE}
theorem CA (hu:X.A.units+1<cLine)(ho:PE X o td)(hi:PE X i ty)(hs:Lh i):PE X (.Subscript o i pos) (J6 td ty):=by intro pins s σ H Q I h;refine HK PySem.F.slot_dict_getitem.lookup hs (thn (ho pins s σ H _ I h) λ u s1 ⟨x,H1,I1,rx,q1⟩=>thn (hi pins s1 σ H1 _ I1 q1) λ iv s2 ⟨y,H2,I2,ry,a,v,ex,g,q2⟩=>?_);subst ex;obtain rfl:u=Value.ref a:=rx;exact⟨zV I2 g,Dw hu I2 g ry λ w' s3 I3 rw'=>⟨v,H2,I3,rw',q2⟩⟩
theorem Dy (hu:X.A.units+1<cLine)(hi:PE X i ty)(ho:PE X o td):PC X .NotIn i o (Cz ty td):=by intro pins s σ H Q I h;refine thn (hi pins s σ H _ I h) λ iv s1 ⟨y,H1,I1,ry,q1⟩=>thn (ho pins s1 σ H1 _ I1 q1) λ u s2 ⟨x,H2,I2,rx,a,ov,ex,g,q2⟩=>?_;subst ex;obtain rfl:u=Value.ref a:=rx;exact HJ hu I2 g ry λ s3 I3=>⟨.bl (!ov.isSome),H2,I3,rfl,q2⟩
theorem HL (hu:X.A.units+1<cLine)(ho:PE X o td)(hi:PE X i ty)(hv:PE X value tv)(hs:swapsWith value (My (.Subscript o i pos')) pos.line X.env=pure Rn) :
  PS X (.Assign [.Subscript o i pos'] value pos) (J9 td ty tv):=by
 intro pins s σ H D I h;refine wpAny_Assign_Subscript (thn (hv pins s σ H _ I h) λ r s1 ⟨v,H1,I1,rv,q1⟩=>thn (ho pins s1 σ H1 _ I1 q1) λ u s2 ⟨x,H2,I2,rx,q2⟩=>thn (hi pins s2 σ H2 _ I2 q2) λ iv s3 ⟨y,H3,I3,ry,a,H4,ex,g,q3⟩=>?_) hs;subst ex;obtain rfl:u=Value.ref a:=rx;exact Dx hu I3 g ry rv λ s4 I4=>⟨σ,H4,I4,q3⟩
end
theorem zW {P:Program}{w:World}{H:Hp}(h:Heap)(hb:sysModules<h.objs.size):jm P w H (h.push {cls:=.type "dict",data:=.dict #[]}) h.objs.size (.dK []) :=
 ⟨aQ _,beq_eq_false_iff_ne.mpr (bj (aP hb)),[],.nil,Heap.DictOf.new h⟩
theorem EU {P:Program}{w:World}{H:Hp}(h:Heap)(hb:sysModules<h.objs.size):jm P w H (h.push {cls:=.type "dict",data:=.dict #[]}) h.objs.size (.dT []) :=
 ⟨aQ _,beq_eq_false_iff_ne.mpr (bj (aP hb)),[],.nil,_,#[],0,aE _ rfl,⟨rfl,rfl,rfl⟩,rfl,rfl,fH⟩
def EV:TE:=λ _ H Q=>∀ p,H p=Rl->Q (.ref p) (upd H p (.dK []))
section
variable {X:Cx}{pos:Pos}
theorem EW:PE X (.Dict [] [] pos) EV:=λ pins s σ H Q I h =>wpAny_Dict_empty ⟨.ref s.heap.objs.size,_,I.laid (a:=s.heap.objs.size) (o:=.dK []) (t':=s.toks) (λ _ _ q=>ag _ q) (ar _) (zW s.heap I.big),rfl,h _ (I.hok.fresh (ar _))⟩
end
def Bw:List (TE×TE)->St->Hp->(List (V×V)->Hp->Prop)->Prop
 | [],_,H,Q=>Q [] H
 | (tk,tv)::r,σ,H,Q=>tk σ H λ x H1=>tv σ H1 λ y H2=>Bw r σ H2 λ ps H3=>Q ((x,y)::ps) H3
abbrev VV:List (V×V)->List (gH×gH)->Prop:=Paired λ p q=>RelV p.1 q.1/\RelV p.2 q.2
def PPs (X:Cx)(pos:Pos)(keys:List (gF Expr))(values:List Expr)(trs:List (TE×TE)):Prop :=
 ∀ (pins:gL) (s:gJ) (σ:St) (H:Hp) (Q:List (V×V)->Hp->Prop),Inv X pins σ H s->Bw trs σ H Q ->
  wpAny (model X.prog X.w) X.A (evalPairs (pairTrees keys values X.env pos)) (λ vs s'=>∃ ps H',Inv X pins σ H' s'/\VV ps vs/\Q ps H') X.xe s
theorem HM {X:Cx}{pos:Pos}:PPs X pos [] [] []:=λ pins s σ H Q I h=>pairTrees_nil_walk ⟨[],H,I,.nil,h⟩
theorem EX {X:Cx}{pos:Pos}{k v:Expr}{ks:List (gF Expr)}{vs:List Expr}{tk tv:TE}{trs:List (TE×TE)}(hk:PE X k tk)(hv:PE X v tv)(hr:PPs X pos ks vs trs) :
  PPs X pos (My k::ks) (v::vs) ((tk,tv)::trs):=λ pins s σ H Q I h =>
 pairTrees_cons_walk (thn (hk pins s σ H _ I h) λ u s1 ⟨x,H1,I1,rx,q1⟩=>thn (hv pins s1 σ H1 _ I1 q1) λ w2 s2 ⟨y,H2,I2,ry,q2⟩ =>thn (hr pins s2 σ H2 _ I2 q2) λ ws s3 ⟨ps,H3,I3,rel,q3⟩=>⟨(x,y)::ps,H3,I3,.cons ⟨rx,ry⟩ rel,q3⟩)
def tw (kvs more:List (Key×V)):List (Key×V):=more.foldl (λ acc kv=>putK acc kv.1 kv.2) kvs
theorem KV.merge:∀ {more:List (Key×V)} {rs:List (Key×gH)} {kvs:List (Key×V)} {vs:List (Key×gH)},KV more rs->KV kvs vs->KV (tw kvs more) (merged vs rs):=by
 intro more rs kvs vs r;unfold KV at r;induction r generalizing kvs vs with
 | nil=>intro q;exact q
 | @cons p q ps qs h t ih =>
  intro r0;have e:KV (putK kvs p.1 p.2) (stored vs q.1 q.2):=by have:=r0.put p.1 h.2;rw[<-h.1];exact this
  exact ih e
theorem qA:∀ (more kvs:List (Key×V)),(tw kvs more).length<=kvs.length+more.length
 | [],kvs=>by show kvs.length<=kvs.length+0;lia
 | p::r,kvs=>by have h1:=qA r (putK kvs p.1 p.2);have h2:=ng kvs p.1 p.2;show(tw (putK kvs p.1 p.2) r).length<=_;rw[bX];lia
theorem vo {P:Program}{w:World}:∀ {kvs:List (Key×V)} {ws:List (gH×gH)},VV (kvs.map λ kv=>(kV kv.1,kv.2)) ws->∃ rs,Carries (jC P w) ws rs/\KV kvs rs
 | [],_,r=>by rw[f7]at r;cases r;exact⟨[],True.intro,.nil⟩
 | p::kvs,_,r=>by
  rw[aS]at r;cases r with
  | @cons a b as bs h t =>obtain⟨rs,c,q⟩:=vo (P:=P) (w:=w) t;obtain⟨b1,b2⟩:=b;exact⟨(p.1,b2)::rs,⟨zT h.1,rfl,c⟩,.cons ⟨rfl,h.2⟩ q⟩
def J_ (trs:List (TE×TE)):TE:=λ σ H Q=>∀ p,H p=Rl->Bw trs σ (upd H p (.dK [])) λ ps H2=>H2 p=My (.dK [])/\∃ kvs:List (Key×V),ps=kvs.map (λ kv=>(kV kv.1,kv.2))/\kvs.length<=15/\Q (.ref p) (upd H2 p (.dK (tw [] kvs)))
theorem HN {X:Cx}{pos:Pos}{keys:List (gF Expr)}{values:List Expr}{trs:List (TE×TE)}(h:PPs X pos keys values trs)(hall:keys.all (·.isSome)=Rm)(hl:keys.length=values.length)(h0:keys≠[])
  (h15:keys.length<=15):PE X (.Dict keys values pos) (J_ trs):=by
 intro pins s σ H Q I q;have hn:=I.hok.fresh (ar s.heap.objs.size);have I1:=I.laid (a:=s.heap.objs.size) (o:=.dK []) (h':=s.heap.push {cls:=.type "dict",data:=.dict #[]}) (t':=s.toks) (λ _ _ q=>ag _ q) (ar _) (zW s.heap I.big);refine wpAny_Dict_walk (knd:=jC X.prog X.w) hall hl h0 h15 (thn (h pins _ σ _ _ I1 (q _ hn)) λ ws s2 ⟨ps,H2,I2,rel,e,kvs,ep,lk,q2⟩=>?_);subst ep;obtain⟨rs,c,rk⟩:=vo (P:=X.prog) (w:=X.w) rel;obtain⟨z,hd,vs0,r0,dd⟩:=JZ I2.hok e;cases r0;refine⟨rs,c,dd,λ h' dd' hs=>⟨.ref s.heap.objs.size,_,?_,rfl,q2⟩⟩;have hz:(tw [] kvs).length<=sizeLine:=by have h1:=qA kvs [];rw[dQ]at h1;rw[sizeLine_eq];lia
 have he:∃ q,h'.get? s.heap.objs.size=My q:=let ⟨q,_,_,hq,_⟩:=dd';⟨q,hq⟩;exact uN I2 (by rw[e];exact True.intro) hs he (ET hz hd (rk.merge .nil) dd')
section
variable {X:Cx}{pins:gL}{σ:St}{H:Hp}{s:gJ}{a:Addr}{y d:V}{u r:gH}{o:gF V}{A:Around}{E:gE}
end
section
variable {X:Cx}{o e f:Expr}{apos cpos:Pos}{td ty tx:TE}
end
section
variable {X:Cx}{pins:gL}{σ:St}{H:Hp}{s:gJ}{a:Addr}{kvs:List (Key×V)}{A:Around}{E:gE}
end
section
variable {X:Cx}{pins:gL}{σ:St}{H:Hp}{s:gJ}{a:Addr}{y:V}{u:gH}{A:Around}{E:gE}
end
end L2
namespace Att
open PySem PySem.W PySem.Calls PyProof.Rows
theorem uz {P:Params}{h:Heap}:∀ (ns:List Int) (vs:List gH),WellAll P h vs (ns.map WData.int)->IntsAre vs ns:=by
 intro ns;induction ns with
 | nil =>intro vs w;rw[f7]at w;cases w;exact .nil
 | cons n ns ih =>
  intro vs w;rw[aS]at w;cases w with
  | cons a b =>cases a;exact .cons _ _ (ih _ b)
theorem xM {l:OpenLaw}{n:Nat}(hn:l.most=My n){P:Params}{h:Heap}{args:List WData}{vals:List gH}
  (hpre:l.row.toRowW.claim.pre args=Rm) (hwl:WellAll P h vals args) :
  ∃ a vs ns,vals=[Value.ref a]/\args=[WData.list (ns.map WData.int)]/\h.get? a=My {cls:=.type "list",data:=.seq vs.toArray}/\IntsAre vs ns/\ns.length<=n:=by
 have hsh:WShape.hasAll [] args [.list .int]=Rm:=(pre_splitW hpre).1;have hc:l.pre.holds [] {args:=args}=Rm:=(pre_splitW hpre).2;obtain⟨d,r,rfl,h1,h2⟩:=hasAllW_cons hsh;obtain rfl:=hasAllW_nil h2;obtain⟨xs,rfl,h3⟩:=hasW_list h1;obtain⟨ns,rfl⟩:=items_int h3;have hlen:ns.length<=n:=by
  unfold OpenLaw.pre at hc;have h4:(WTm.not (.lt (.lit (.int (n:Int))) (.len (.arg 0)))).holds [] {args:=[.list (ns.map .int)]}=Rm:=by have h4:=(holds_andW hc).1;rw[hn]at h4;exact h4
  have h5:=condW_of h4 (w_not (w_lt w_lit (w_len_list (w_arg rfl))));rw[ah]at h5;refine fc λ q=>?_;have q':(n:Int)<((ns.length:Nat):Int):=by lia
  first
   | (rw[decide_eq_true q']at h5;exact absurd h5 (by decide))
   | (simp at h5;lia)
 cases hwl with
 | cons w1 w2 =>
  cases w2;cases w1 with
  | list ho hall=>exact⟨_,_,ns,rfl,rfl,ho,uz ns _ hall,hlen⟩
theorem xN (l:OpenLaw)(args:List WData):l.row.toRowW.claim.post args (.bool Rm) args=Rm :=
 postW_of (r:=l.row.toRowW) (X:=(Rm==Rm))
  (show WShape.has [] (.bool Rm) .bool=Rm by first | rfl | decide | simp[WShape.has,WShape.arms,WShape.armsAll])
  (show(WTm.eq .res (.lit (.bool Rm))).value [] {args:=args,res:=My (.bool Rm),after:=args}=My (.bool (Rm==Rm)) from w_eq_bool (w_res rfl) w_lit) rfl
theorem attach {l:OpenLaw}{n:Nat}{q:Program}{loose:List Str}{XP:(Str->gF gH)->Heap->Prop}{YP:World->Heap->Prop}{d:DefRec}{x:Str}
  (hn:l.most=My n) (hdf:d.params.defaults=[])
  (hbind:∀ pm cd doc v:gH,bindArgs (docDef d.name d.params d.body d.scope pm cd doc) ⟨[v],[]⟩=pure [(x,v)])
  (hx:d.scope.names.lookup x=My .local\/d.scope.names.lookup x=My .cell)
  (hk:d.scope.kind=.function) (hco:d.scope.isCoroutine=Rn) (hgen:d.scope.isGenerator=Rn)
  (body:∀ (w:World) (s₀ s₁ s:gJ) (mg mb:gD) (fa:Addr) (o:Obj) (pm cd doc:gH) (a:Addr) (vs:List gH) (ns:List Int),
   Ground q loose [] XP w s₀ mg mb s₁.heap->YP w s₁.heap ->
   s₁.heap.get? fa=My o->o.data=.func (docDef d.name d.params d.body d.scope pm cd doc)->s₁.heap.CodeRec cd d.name->mg d.name=My (.ref fa) ->
   s₁.heap.get? a=My {cls:=.type "list",data:=.seq vs.toArray}->IntsAre vs ns->ns.length<=n ->
   s.gens=#[]->s.os=s₁.os ->
   Fr s₁.heap s₁.heap.objs.size s.heap (bindL (envOfC d.name d.scope s₁.heap.objs.size fa cd).kindOf [(x,.ref a)] λ _=>Rl) ->
   Cl s₁.heap.objs.size (cellsFrom (s₁.heap.objs.size+1) d.scope.names []) s.heap (bindC (envOfC d.name d.scope s₁.heap.objs.size fa cd).kindOf [(x,.ref a)] λ _=>Rl) ->
   wpAny (model l.prog w) (callerA.deeper (envOfC d.name d.scope s₁.heap.objs.size fa cd)) (execs d.body (envOfC d.name d.scope s₁.heap.objs.size fa cd))
    (λ f s'=>f=.ret (.bool Rm)/\OldK s₁.heap s'.heap/\s'.os=s₁.os/\AllBare s'.gens) (λ _ _=>False) s) :
  WalkO q loose XP YP l.row.toRowW d [] (λ f vs=>PySem.call f vs):=by
 intro w s₀ s₁ mg mb G Y fa o pm cd doc dV kV ho hd hcd hD hmg hg args vals as hpre hlay hrd hwl hlo;obtain rfl:dV=.none:=Dflts.none hD hdf;obtain rfl:kV=.none:=Dflts.noKw hD;obtain⟨a,vs,ns,rfl,rfl,hobj,hints,hlen⟩:=xM hn hpre hwl;refine enter_call ?_;refine call_cells_ret (o:=o) (by rw[depth_caller];decide) ho (fd_plain hd) G.T.nolimit hcd (hbind pm cd doc (.ref a)) (λ y hy=>?_) (λ h₁ tk F X=>?_) hco hgen hk
 ·obtain rfl:y=(x,Value.ref a):=aV.mp hy
  rcases hx with e | e
  ·exact .inl e
  ·exact .inr ⟨e,cellsFrom_some _ _ _ (.inl e)⟩
 ·refine cW (body w s₀ s₁ {s₁ with heap:=h₁,toks:=tk} mg mb fa o pm cd doc a vs ns G Y ho (fd_plain hd) hcd hmg hobj hints hlen hg rfl F X) (λ f s' hq=>?_) (λ _ _ hq=>hq);obtain⟨rfl,h2,h3,h4⟩:=hq;exact⟨.inl ⟨.bool Rm,.bool Rm,[],rfl,λ _=>rfl,.bool Rm,xN l _,λ _=>⟨List.Pairwise.nil,λ _ hm=>(nomatch hm)⟩⟩,h2,h3,h4⟩
theorem zX {l:OpenLaw}{n:Nat}{q:Program}{loose:List Str}{XP:(Str->gF gH)->Heap->Prop}{YP:World->Heap->Prop}{d:DefRec}
  (hn:l.most=My n) (hdf:d.params.defaults=[])
  (call:∀ (w:World) (s₀ s₁:gJ) (mg mb:gD) (fa:Addr) (o:Obj) (pm cd doc:gH) (a:Addr) (vs:List gH) (ns:List Int),
   Ground q loose [] XP w s₀ mg mb s₁.heap->YP w s₁.heap ->
   s₁.heap.get? fa=My o->o.data=.func (docDef d.name d.params d.body d.scope pm cd doc)->s₁.heap.CodeRec cd d.name->mg d.name=My (.ref fa) ->
   s₁.heap.get? a=My {cls:=.type "list",data:=.seq vs.toArray}->IntsAre vs ns->ns.length<=n->s₁.gens=#[] ->
   codeAny (model l.prog w) callerA (.call (.ref fa) ⟨[.ref a],[]⟩) (λ r s'=>r=.ok (.ret (.bool Rm))/\OldK s₁.heap s'.heap/\s'.os=s₁.os/\AllBare s'.gens) s₁) :
  WalkO q loose XP YP l.row.toRowW d [] (λ f vs=>PySem.call f vs):=by
 intro w s₀ s₁ mg mb G Y fa o pm cd doc dV kV ho hd hcd hD hmg hg args vals as hpre hlay hrd hwl hlo;obtain rfl:dV=.none:=Dflts.none hD hdf;obtain rfl:kV=.none:=Dflts.noKw hD;obtain⟨a,vs,ns,rfl,rfl,hobj,hints,hlen⟩:=xM hn hpre hwl;refine enter_call (codeAny_mono (call w s₀ s₁ mg mb fa o pm cd doc a vs ns G Y ho (fd_plain hd) hcd hmg hobj hints hlen hg) λ r s' hq=>?_);obtain⟨rfl,h2,h3,h4⟩:=hq;exact⟨.inl ⟨.bool Rm,.bool Rm,[],rfl,λ _=>rfl,.bool Rm,xN l _,λ _=>⟨List.Pairwise.nil,λ _ hm=>(nomatch hm)⟩⟩,h2,h3,h4⟩
section
variable {prog:Program}{w:World}{A:Around}{E:gE}{s:gJ}{K:Frag}
def jd (h:Heap):Heap:={h with objs:=#[]}
end
end Att
namespace L2
open PySem PySem.Spec PyProof.Rows
theorem xO:∀ {vs:List gH} {ns:List Int},IntsAre vs ns->Vals (ns.map V.int) vs
 | _,_,.nil=>.nil
 | _,_,.cons n t h=>.cons ⟨t,rfl⟩ (xO h)
def Li (H:Hp):Prop:=∀ b,H b=Rl\/∃ o xs,H b=My (.frz o (.lst xs))
theorem EY {P:Program}{w:World}{K:gG}{mg mb:gD}{CX:CXT}{k:Nat}{fa a:Addr}{fd:FuncData}{x:Str}{sp:Sp}{s₁:gJ}{vs:List gH}{ns:List Int}
  (KX:K.In s₁.heap) (hns:s₁.heap.Ns mainGlobals mg) (hb:s₁.heap.Ns builtinsNs mb) (hbb:∀ x:Str,x≠"__name__"->mb x=bootBuiltins x) (hlim:s₁.heap.NoLimit) (hg:s₁.gens=#[])
  (ha:s₁.heap.get? a=My {cls:=.type "list",data:=.seq vs.toArray}) (hi:IntsAre vs ns) (hl:ns.length<=sizeLine) (hr:jt k callerA)
  (F:∀ base:Heap,K.In base->base.Ns mainGlobals mg->pE P w K mg base CX k fa fd [x] sp) (hbind:∀ (s:gJ) (u:gH),BindsTo s fd ⟨[u],[]⟩ [(x,u)])
  (hsp:∀ H:Hp,Li H->SqL K H a (ns.map V.int)->sp [.ref a] H (λ v _=>v=.bl Rm) λ _ _ _=>False)
  (hCX:∀ H e s',CX [] H s₁ (λ _ _ _=>False) e s'->False) :
  codeAny (model P w) callerA (.call (.ref fa) ⟨[.ref a],[]⟩) (λ r s'=>r=.ok (.ret (.bool Rm))/\OldK s₁.heap s'.heap/\s'.os=s₁.os/\AllBare s'.gens) s₁:=by
 have rv:=xO hi;have lenV:=hi.length;have core:∀ H:Hp,Li H->SqL K H a (ns.map V.int)->HOk P w H s₁.heap->(∀ b,H b≠Rl->b=a)->(H a≠Rl->K.lookup a=Rl) ->
   codeAny (model P w) callerA (.call (.ref fa) ⟨[.ref a],[]⟩) (λ r s'=>r=.ok (.ret (.bool Rm))/\OldK s₁.heap s'.heap/\s'.os=s₁.os/\AllBare s'.gens) s₁:=by
  intro H hO hS hok hA hK;have base_of:∀ {b:Addr} {o:Obj},s₁.heap.get? b=My o->H b=Rl->(yo s₁.heap H).get? b=My o:=λ e n=>Ew e n;have noA:∀ {b:Addr} {o:Obj} {es:Array DictEntry} {ep:Nat},s₁.heap.get? b=My o->o.data=.dict es ep->H b=Rl:=λ{b o es ep} e d=>by
   cases q:H b with
   | none=>rfl
   | some u =>have e':b=a:=hA b (by rw[q];simp);subst e';rw[ha]at e;cases e;have d':Data.seq vs.toArray _=Data.dict es ep:=d;cases d'
  have nsK:∀ {b:Addr} {m:gD},s₁.heap.Ns b m->(yo s₁.heap H).Ns b m:=λ{b m} ⟨o,es,ep,e,d,r⟩=>⟨o,es,ep,base_of e (noA e d),d,r⟩;have hKb:K.In (yo s₁.heap H):=λ b o e=>base_of (KX b o e) (by
   cases q:H b with
   | none=>rfl
   | some u =>have e':b=a:=hA b (by rw[q];simp);subst e';rw[hK (by rw[q];simp)]at e;cases e)
  have hM:Mod K mg (yo s₁.heap H):=⟨hKb,nsK hns,⟨mb,nsK hb,hbb⟩,let ⟨mc,h1,h2⟩:=hlim;⟨mc,nsK h1,h2⟩⟩;have e0:Dv P w K mg (yo s₁.heap H) callerA [] s₁ H:=⟨rfl,hM,λ b o e=>Hw e,fC (Dq _ _),trivial,λ b hb=>absurd (show b∈([]:List Addr) from hb) (by simp),hok,.of_eq hg⟩;refine codeAny_mono ((F _ hKb (nsK hns)).run callerA [] s₁ H ⟨[.ref a],[]⟩ [.ref a] [.ref a] _ _ hr e0 (hbind s₁ (.ref a)) (.cons rfl .nil) (hsp H hO hS)) λ r s' h=>?_;cases r with
  | error e=>exact(hCX H e s' h).elim
  | ok fl =>
   cases fl with
   | next=>exact False.elim h
   | brk=>exact False.elim h
   | cont=>exact False.elim h
   | ret u =>
    obtain⟨v,H',os,bare,un,hok',r',q⟩:=h;have q':v=.bl Rm:=q;subst q';obtain rfl:u=Value.bool Rm:=r';refine⟨rfl,OldK.of_keep λ b o e=>?_,os,bare⟩;cases q:H b with
    | none=>exact un.keep b o e q (by intro z;exact absurd (show b∈([]:List Addr) from z) (by simp)) (by simp)
    | some u =>
     rcases hO b with z | ⟨ob,xs,z⟩
     ·rw[q]at z;cases z
     ·have z2:=un.pf b ob _ z;obtain⟨e1,_⟩:=hok b _ z;obtain⟨e2,_⟩:=hok' b _ z2;rw[e]at e1;cases e1;exact e2
 cases hk:K.lookup a with
 | some o =>have e:=KX a o hk;rw[ha]at e;cases e;refine core (λ _=>Rl) (λ _=>.inl rfl) (.inr ⟨_,vs.toArray,_,hk,rfl,rfl,rfl,by rw[ao,lenV];exact hl,by simpa using rv⟩) (λ b u z=>by have z':(Rl:gF HO)=My u:=z;cases z') (λ b z=>absurd rfl z) λ z=>absurd rfl z
 | none =>
  refine core (λ b=>if b=a then My (.frz {cls:=.type "list",data:=.seq vs.toArray} (.lst (ns.map V.int))) else Rl) (λ b=>?_) (.inl (.inr ⟨{cls:=.type "list",data:=.seq vs.toArray},ai rfl⟩)) (λ b u z=>?_) (λ b z=>?_) λ _=>hk
  ·by_cases hb:b=a
   ·exact .inr ⟨_,_,ai hb⟩
   ·exact .inl (aq hb)
  ·by_cases hb:b=a
   ·have z':=(ai hb).symm.trans z;cases z';subst hb;exact⟨ha,by rw[ah];exact hl,vs,_,rv,ha⟩
   ·have z':=(aq hb).symm.trans z;cases z'
  ·by_cases hb:b=a
   ·exact hb
   ·exact absurd (aq hb) z
theorem CB {l:PySem.W.OpenLaw}{n k:Nat}{q:Program}{loose:List Str}{XP:(Str->gF gH)->Heap->Prop}{YP:World->Heap->Prop}{d:DefRec}{K:Params->gG}{CX:World->CXT}{sp:World->Sp}{x:Str}
  (hn:l.most=My n) (hn2:n<=sizeLine) (hdf:d.params.defaults=[]) (hr:jt k callerA)
  (hY:∀ (w:World) (h:Heap),YP w h->(K w.params).In h)
  (F:∀ (w:World) (mg:gD) (fa:Addr) (h:Heap),(K w.params).In h->h.Ns mainGlobals mg->mg d.name=My (.ref fa) ->
   ∃ fd:FuncData,(∀ (s:gJ) (u:gH),BindsTo s fd ⟨[u],[]⟩ [(x,u)]) /\
    ∀ base:Heap,(K w.params).In base->base.Ns mainGlobals mg->pE l.prog w (K w.params) mg base (CX w) k fa fd [x] (sp w))
  (hsp:∀ (w:World) (H:Hp) (a:Addr) (ns:List Int),ns.length<=n->Li H->SqL (K w.params) H a (ns.map V.int)->sp w [.ref a] H (λ v _=>v=.bl Rm) λ _ _ _=>False)
  (hCX:∀ (w:World) (H:Hp) (s:gJ) (e:gH) (s':gJ),CX w [] H s (λ _ _ _=>False) e s'->False) :
  PySem.W.WalkO q loose XP YP l.row.toRowW d [] (λ f vs=>PySem.call f vs):=by
 refine Att.zX hn hdf λ w s₀ s₁ mg mb fa o pm cd doc a vs ns G Y ho hd hcd hmg hobj hints hlen hg=>?_;have KX:=hY w _ Y;obtain⟨fd,hb,hF⟩:=F w mg fa _ KX G.T.g hmg;exact EY KX G.T.g G.T.b G.T.builtins G.T.nolimit hg hobj hints (bA hlen hn2) hr hF hb (λ H hO hS=>hsp w H a ns hlen hO hS) λ H e s'=>hCX w H s₁ e s'
def rC (s:Stmt):Arguments:=match s with
 | .FunctionDef _ a _ _ _ _ _ _ _ _=>a
 | _=>{posonlyargs:=[],args:=[],vararg:=Rl,kwonlyargs:=[],kw_defaults:=[],kwarg:=Rl,defaults:=[]}
def iL (s:Stmt):List Stmt:=match s with
 | .FunctionDef _ _ b _ _ _ _ _ _ _=>b
 | _=>[]
def gZ (s:Stmt):Scope:=match s with
 | .FunctionDef _ _ _ _ _ _ sc _ _ _=>sc
 | _=>{kind:=.function,names:=[],isGenerator:=Rn,isCoroutine:=Rn}
abbrev CX0:CXT:=λ _ _ _ _ _ _=>False
abbrev E0:XK:=λ _ _ _=>False
theorem Ka {X:Cx}:Passes CX0 X E0:=λ _ _ _ _ _ _ _ h=>h.elim
structure Fun (K:gG)(x qual:Str)(st:Stmt)(f:Addr)(fd:FuncData):Prop where
 ex:∃ (oc:gH) (od:gF Addr) (kV doc pm:gH) (an:gF Addr) (cdv ct:gH) (osl:Array (gF gH)),
  fd=PySem.W.fnOf x qual (rC st) (iL st) (gZ st) .none kV doc pm an cdv ct/\K.lookup f=My ⟨oc,od,.func fd,osl⟩/\PySem.W.codeIn K cdv qual=Rm
 kp:PySem.W.keepIn K (.ref f)=Rm
section
variable {P:Program}{w:World}{K:gG}{mg:gD}{base:Heap}
theorem Fun.ok {x qual:Str}{st:Stmt}{f:Addr}{fd:FuncData}{N ps:List Str}{k:Nat}{sp:Sp}(F:Fun K x qual st f fd)(S:iI N ps (gZ st))(len:∀ vs H Q E,sp vs H Q E->vs.length=ps.length)
  (hbody:∀ (cdv:gH) (A:Around) (outer:List Env) (s:gJ) (H:Hp) (vs:List V) (Q:VK) (E:XK),jt k (A.deeper (envOfC qual (gZ st) s.heap.objs.size f cdv))->sp vs H Q E ->
   ∃ t,PSs (pj CX0 P w K mg base N qual (gZ st) f cdv A outer s H E).nox (iL st) t/\t {nx:=λ _ H'=>Q .non H',rt:=Q} (start N vs) H):pE P w K mg base CX0 (k+1) f fd ps sp:=by
 obtain⟨oc,od,kV,doc,pm,an,cdv,ct,osl,rfl,lk,hcd⟩:=F.ex;refine JX lk hcd S len λ A outer s H vs Q E hr hsp=>?_;obtain⟨t,h,q⟩:=hbody cdv A outer s H vs Q E hr hsp;exact⟨t,h.nox,q⟩
theorem Lj {x qual:Str}{st:Stmt}{f:Addr}{oc:gH}{od an:gF Addr}{osl:Array (gF gH)}{kV doc pm cdv ct:gH}(l:K.lookup f=My ⟨oc,od,.func (PySem.W.fnOf x qual (rC st) (iL st) (gZ st) .none kV doc pm an cdv ct),osl⟩)
  (c:PySem.W.codeIn K cdv qual=Rm) (k:PySem.W.keepIn K (.ref f)=Rm):Fun K x qual st f (PySem.W.fnOf x qual (rC st) (iL st) (gZ st) .none kV doc pm an cdv ct):=⟨⟨oc,od,kV,doc,pm,an,cdv,ct,osl,rfl,l,c⟩,k⟩
end
theorem Nj {A:Around}{k:Nat}(hr:jt k A):A.units+1<cLine:=dN (Nat.add_le_add_left (by decide:1<=64) _) hr.units
section
variable {X:Cx}
theorem pv (i:Nat){x:Str}{pos:Pos}(hN:X.N[i]?=My x:=by rfl)(hv:Vis X.env.scope x:=by trivial)(hd:(x==("__debug__":Str))=Rn:=by decide)
  (hcd:(x==("__classdict__":Str))=Rn:=by decide):PE X (.Name x pos) (hX i):=Ey hN hv hd hcd
end
theorem Bx {A B:Prop}(h:B):if Rn=Rm then A else B:=by rw[aq au];exact h
theorem By {A B:Prop}(h:A):if Rm=Rm then A else B:=by rw[ai rfl];exact h
theorem Lk {c A B:Prop}[Decidable c](h1:c->A)(h2:¬ c->B):if c then A else B:=by
 by_cases h:c
 ·rw[ai h];exact h1 h
 ·rw[aq h];exact h2 h
def gY (H H':Hp):Prop:=∀ b o,H b=My o->H' b=My o
theorem gY.refl (H:Hp):gY H H:=λ _ _ h=>h
theorem gY.trans {H H1 H2:Hp}(a:gY H H1)(b:gY H1 H2):gY H H2:=λ c o h=>b c o (a c o h)
theorem gY.free {H H':Hp}(e:gY H H'){l:Addr}(h:H' l=Option.none):H l=Option.none:=by
 cases q:H l with
 | none=>rfl
 | some o =>rw[e l o q]at h;cases h
theorem gY.seq {K:gG}{H H':Hp}{a:Addr}{xs:List V}(e:gY H H')(h:SqL K H a xs):SqL K H' a xs:=by
 rcases h with (h | ⟨o,h⟩) | h
 ·exact .inl (.inl (e _ _ h))
 ·exact .inl (.inr ⟨o,e _ _ h⟩)
 ·exact .inr h
section
variable {κ:Type}[DecidableEq κ]
theorem yE:∀ {l:List κ} {k:κ},l.Nodup->¬ k∈l->(l++[k]).Nodup
 | [],k,_,_=>by simp
 | a::r,k,h,hk=>by
  obtain⟨h1,h2⟩:=bu.mp h;show(a::(r++[k])).Nodup;refine bu.mpr ⟨λ m=>?_,yE h2 λ m=>hk (ax.mpr (Or.inr m))⟩;rcases aM.mp m with q | q
  ·exact h1 q
  ·exact hk (ax.mpr (Or.inl (aV.mp q).symm))
end
end L2
namespace Tb
open PySem
def Ri (xs:Array Nat):Prop:=∀ (a b x y:Nat),a<b->xs[a]?=My x->xs[b]?=My y->x<y
def Bel (xs:Array Nat)(j r:Nat):Prop:=r<=xs.size/\(∀ k x,k<r->xs[k]?=My x->x<j)/\(∀ k x,r<=k->xs[k]?=My x->j<=x)
theorem vp {xs:Array Nat}{j:Nat}(R:Ri xs):∀ (fuel lo hi:Nat),hi<=lo+fuel->lo<=hi->hi<=xs.size->(∀ k x,k<lo->xs[k]?=My x->x<j)->(∀ k x,hi<=k->xs[k]?=My x->j<=x)->Bel xs j (SetTable.below.go xs j fuel lo hi)
 | 0,lo,hi,h1,h2,h3,h4,h5=>by
  have e:lo=hi:=by lia
  subst e;exact⟨h3,h4,h5⟩
 | fuel+1,lo,hi,h1,h2,h3,h4,h5=>by
  unfold SetTable.below.go;by_cases hlt:lo<hi
  ·rw[ai hlt]
   have hm:(lo+hi) / 2<xs.size:=by lia
   obtain⟨v,hv⟩:∃ v,xs[(lo+hi) / 2]?=My v:=⟨xs[(lo+hi) / 2],by simp[hm]⟩;have hd:xs.getD ((lo+hi) / 2) j=v:=by rw[bF,hv];rfl
   dsimp only;rw[hd];by_cases hj:v<j
   ·rw[ai hj]
    refine vp R fuel _ _ (by lia) (by lia) h3 (λ k x hk e=>?_) h5;by_cases hk':k=(lo+hi) / 2
    ·subst hk';rw[hv]at e;cases e;exact hj
    ·exact Nat.lt_trans (R k _ x v (by lia) e hv) hj
   ·rw[aq hj]
    refine vp R fuel _ _ (by lia) (by lia) (by lia) h4 (λ k x hk e=>?_);by_cases hk':k=(lo+hi) / 2
    ·subst hk';rw[hv]at e;cases e;lia
    ·have:=R _ k v x (by lia) hv e;lia
  ·rw[aq hlt]
   have e:lo=hi:=by lia
   subst e;exact⟨h3,h4,h5⟩
theorem vq {xs:Array Nat}(R:Ri xs)(j:Nat):Bel xs j (Rq xs j) :=
 vp R xs.size 0 xs.size (by lia) (aQ _) (ar _) (λ k x hk=>absurd hk (df _)) λ k x hk e=>by rw[cS hk]at e;cases e
theorem below_at {xs:Array Nat}(R:Ri xs){i j:Nat}(e:xs[i]?=My j):Rq xs j=i:=by
 obtain⟨h1,h2,h3⟩:=vq R j;rcases eS i (Rq xs j) with h | h | h
 ·exact absurd (h2 i j h e) (aW _)
 ·exact h.symm
 ·have hi:i<xs.size:=(cq.mp e).1
  have hr:Rq xs j<xs.size:=by lia
  have hv:xs[Rq xs j]?=My xs[Rq xs j]:=by simp[hr]
  have a:=R _ _ _ _ h hv e;have b:=h3 _ _ (ar _) hv;lia
def Occ (t:SetTable)(j:Nat):Prop:=∃ i:Nat,t.place[i]?=My j
theorem tE {t:SetTable}(R:Ri t.place){i j:Nat}(e:t.place[i]?=My j):t.slot j=.live i:=by unfold SetTable.slot;rw[below_at R e];dsimp only;rw[e];simp
theorem Bz {t:SetTable}(hd:t.dummies=#[]){j:Nat}(e:¬ Occ t j):t.slot j=.empty:=by
 unfold SetTable.slot;dsimp only;rw[aq,hd]
 ·have:SetTable.has #[] j=Rn:=by
   unfold SetTable.has;simp
  rw[this];rfl
 ·intro h;exact e ⟨_,by simpa using h⟩
def adv (mask:Nat)(p:SetTable.Probe):SetTable.Probe :=
 if p.more>0 then {p with j:=p.j+1,more:=p.more-1} else {p with j:=(SetTable.leap mask p.i p.perturb).1,more:=Rr mask (SetTable.leap mask p.i p.perturb).1-(SetTable.leap mask p.i p.perturb).1,i:=(SetTable.leap mask p.i p.perturb).1,perturb:=(SetTable.leap mask p.i p.perturb).2}
theorem vv (t:SetTable)(p:SetTable.Probe):t.advance p=adv t.mask p:=by unfold SetTable.advance adv;split<;>rfl
def walk (mask:Nat)(p:SetTable.Probe):Nat->SetTable.Probe
 | 0=>p
 | n+1=>adv mask (walk mask p n)
theorem EZ (mask:Nat)(p:SetTable.Probe):∀ n,walk mask (adv mask p) n=walk mask p (n+1)
 | 0=>rfl
 | n+1=>by show adv mask (walk mask (adv mask p) n)=adv mask (walk mask p (n+1));rw[EZ mask p n]
theorem rE (mask:Nat)(p:SetTable.Probe)(a:Nat):∀ n,walk mask (walk mask p a) n=walk mask p (a+n)
 | 0=>rfl
 | n+1=>by show adv mask (walk mask (walk mask p a) n)=adv mask (walk mask p (a+n));rw[rE mask p a n]
def st (mask:Nat)(h:Int):SetTable.Probe:={j:=Rt h % (mask+1),more:=Rr mask (Rt h % (mask+1))-Rt h % (mask+1),i:=Rt h % (mask+1),perturb:=Rt h,dummy:=Rl}
theorem Dz (mask:Nat)(p:SetTable.Probe):(adv mask p).dummy=p.dummy:=by unfold adv;split<;>rfl
theorem vx (mask:Nat)(p:SetTable.Probe):∀ n,(walk mask p n).dummy=p.dummy
 | 0=>rfl
 | n+1=>(Dz _ _).trans (vx mask p n)
def bdy (mask i perturb:Nat):SetTable.Probe:={j:=i,more:=Rr mask i-i,i:=i,perturb:=perturb,dummy:=Rl}
theorem DA (mask i:Nat):Rr mask i-i<=9:=by unfold Rr;split<;>lia
theorem BA (mask i perturb:Nat):∀ k,k<=Rr mask i-i->walk mask (bdy mask i perturb) k={j:=i+k,more:=Rr mask i-i-k,i:=i,perturb:=perturb,dummy:=Rl}
 | 0,_=>rfl
 | k+1,h=>by show adv mask (walk mask (bdy mask i perturb) k)=_;rw[BA mask i perturb k (by lia)];unfold adv;rw[ai (by show Rr mask i-i-k>0;lia)];show SetTable.Probe.mk (i+k+1) (Rr mask i-i-k-1) i perturb Rl=SetTable.Probe.mk (i+(k+1)) (Rr mask i-i-(k+1)) i perturb Rl;congr 1
theorem zY (mask i perturb:Nat):walk mask (bdy mask i perturb) (Rr mask i-i+1)=bdy mask (SetTable.leap mask i perturb).1 (SetTable.leap mask i perturb).2:=by show adv mask (walk mask (bdy mask i perturb) (Rr mask i-i))=_;rw[BA mask i perturb _ (ar _)];unfold adv;rw[aq (by show ¬ Rr mask i-i-(Rr mask i-i)>0;lia)];rfl
def lp (mask:Nat)(i perturb:Nat):Nat->Nat×Nat
 | 0=>(i,perturb)
 | n+1=>SetTable.leap mask (lp mask i perturb n).1 (lp mask i perturb n).2
theorem CC (mask i perturb:Nat):∀ L,∃ n,n<=10*L/\walk mask (bdy mask i perturb) n=bdy mask (lp mask i perturb L).1 (lp mask i perturb L).2
 | 0=>⟨0,ar _,rfl⟩
 | L+1=>by
  obtain⟨n,hn,e⟩:=CC mask i perturb L;refine⟨n+(Rr mask (lp mask i perturb L).1-(lp mask i perturb L).1+1),?_,?_⟩
  ·have:=DA mask (lp mask i perturb L).1;lia
  ·rw[<-rE,e];exact zY _ _ _
theorem CD (mask i perturb:Nat):∀ L,(lp mask i perturb L).2=perturb / 32 ^ L
 | 0=>by simp[lp]
 | L+1=>by show(lp mask i perturb L).2 / 32=_;rw[CD mask i perturb L,Nat.div_div_eq_div_mul,Nat.pow_succ]
theorem BB (mask i perturb a:Nat):∀ L,lp mask i perturb (a+L)=lp mask (lp mask i perturb a).1 (lp mask i perturb a).2 L
 | 0=>rfl
 | L+1=>by show SetTable.leap mask (lp mask i perturb (a+L)).1 (lp mask i perturb (a+L)).2=_;rw[BB mask i perturb a L];rfl
def lc (mask:Nat):Nat->Nat
 | 0=>0
 | n+1=>(lc mask n*5+1) % (mask+1)
def Mk (mask:Nat):Prop:=mask=7\/mask=31\/mask=127
theorem HP:∀ j,j<8->∃ k,k<8/\lc 7 k=j:=by decide +kernel
theorem E1:∀ j,j<32->∃ k,k<32/\lc 31 k=j:=by decide +kernel
theorem DB:∀ j,j<128->∃ k,k<128/\lc 127 k=j:=by decide +kernel
theorem HQ:lc 7 8=0/\lc 31 32=0/\lc 127 128=0:=by decide +kernel
theorem E2 {mask:Nat}(m:Mk mask){j:Nat}(h:j<=mask):∃ k,k<=mask/\lc mask k=j:=by
 rcases m with rfl | rfl | rfl
 ·obtain⟨k,h1,h2⟩:=HP j (by lia);exact⟨k,by lia,h2⟩
 ·obtain⟨k,h1,h2⟩:=E1 j (by lia);exact⟨k,by lia,h2⟩
 ·obtain⟨k,h1,h2⟩:=DB j (by lia);exact⟨k,by lia,h2⟩
theorem E3 {mask:Nat}(m:Mk mask):∀ n,lc mask (mask+1+n)=lc mask n
 | 0=>by
  have:=HQ;rcases m with rfl | rfl | rfl
  ·exact this.1
  ·exact this.2.1
  ·exact this.2.2
 | n+1=>by show(lc mask (mask+1+n)*5+1) % (mask+1)=(lc mask n*5+1) % (mask+1);rw[E3 m n]
theorem Kb {mask:Nat}(a:Nat):∀ L,(lp mask (lc mask a) 0 L).1=lc mask (a+L)/\(lp mask (lc mask a) 0 L).2=0
 | 0=>⟨rfl,rfl⟩
 | L+1=>by
  obtain⟨h1,h2⟩:=Kb (mask:=mask) a L;refine⟨?_,?_⟩
  ·show((lp mask (lc mask a) 0 L).1*5+1+(lp mask (lc mask a) 0 L).2 / 32) % (mask+1)=(lc mask (a+L)*5+1) % (mask+1);rw[h1,h2]
  ·show(lp mask (lc mask a) 0 L).2 / 32=0;rw[h2]
theorem HR (h:Int):Rt h<2 ^ 64:=by unfold Rt;have h1:=cg h (show(2 ^ 64:Int)≠0 by decide);have h2:=cL h (show(0:Int)<2 ^ 64 by decide);lia
theorem E4 {mask:Nat}(m:Mk mask)(i:Nat)(hi:i<=mask)(h:Int){j:Nat}(hj:j<=mask):∃ L,L<SetTable.turns mask/\(lp mask i (Rt h) L).1=j:=by
 have hp:(lp mask i (Rt h) 13).2=0:=by rw[CD];have:=HR h;exact Nat.div_eq_of_lt (aH this (by decide))
 have hlt:∀ L,(lp mask i (Rt h) (L+1)).1<=mask:=λ L=>by show((lp mask i (Rt h) L).1*5+1+(lp mask i (Rt h) L).2 / 32) % (mask+1)<=mask;exact cy (f9 _ (f_ _))
 obtain⟨a,ha,ea⟩:=E2 m (hlt 12);obtain⟨b,hb,eb⟩:=E2 m hj;obtain⟨L,hL,eL⟩:∃ L,L<=mask/\lc mask (a+L)=j:=by
  by_cases hab:a<=b
  ·exact⟨b-a,by lia,by rw[show a+(b-a)=b by lia];exact eb⟩
  ·refine⟨mask+1+b-a,by lia,?_⟩;rw[show a+(mask+1+b-a)=mask+1+b by lia,E3 m];exact eb
 refine⟨13+L,by unfold SetTable.turns;lia,?_⟩;rw[BB,hp,<-ea];rw[(Kb a L).1];exact eL
def Reach (mask:Nat)(h:Int)(occ:Nat->Prop)(j:Nat):Prop:=∃ n,(walk mask (st mask h) n).j=j/\∀ m,m<n->occ (walk mask (st mask h) m).j
theorem Reach.mono {mask:Nat}{h:Int}{occ occ':Nat->Prop}{j:Nat}(r:Reach mask h occ j)(k:∀ x,occ x->occ' x):Reach mask h occ' j :=
 let ⟨n,e,a⟩:=r
 ⟨n,e,λ m hm=>k _ (a m hm)⟩
structure TOk (t:SetTable)(hs:List Int):Prop where
 m:Mk t.mask
 d:t.dummies=#[]
 ri:Ri t.place
 le:∀ (i j:Nat),t.place[i]?=My j->j<=t.mask
 sz:t.place.size=hs.length
 ro:t.place.size<=t.mask
 rc:∀ (i j:Nat) (h:Int),t.place[i]?=My j->hs[i]?=My h->Reach t.mask h (Occ t) j
theorem bits_le (mask:Nat)(h:Int):Rt h % (mask+1)<=mask:=cy (f9 _ (f_ _))
theorem vy {α:Type}[BEq α][LawfulBEq α]:∀ (l l':List α),l.Nodup->(∀ x,x∈l->x∈l')->l.length<=l'.length
 | [],l',_,_=>aQ _
 | a::r,l',hn,hs=>by obtain⟨h1,h2⟩:=bu.mp hn;have ha:=hs a ay;have:=vy r (l'.erase a) h2 λ x hx=>(List.mem_erase_of_ne (show x≠a from λ e=>h1 (e▸hx))).mpr (hs x (aw _ hx));rw[List.length_erase_of_mem ha]at this;have hpos:0<l'.length:=List.length_pos_of_mem ha;rw[bX];lia
theorem DC {xs:Array Nat}{mask:Nat}(R:Ri xs)(hs:xs.size<=mask):∃ j,j<=mask/\¬ ∃ i:Nat,xs[i]?=My j:=by
 refine aX λ hn=>?_;have all:∀ j,j<=mask->j∈xs.toList:=λ j hj=>by refine aX λ hm=>hn ⟨j,hj,λ⟨i,e⟩=>hm ?_⟩;rw[<-bh]at e;exact aY e
 have:=vy (Ro (mask+1)) xs.toList cM λ j hj=>all j (cy (aD.mp hj));simp at this;lia
theorem HS {t:SetTable}{hs:List Int}(T:TOk t hs)(h:Int):∃ e,e<10*SetTable.turns t.mask/\¬ Occ t (walk t.mask (st t.mask h) e).j:=by
 obtain⟨j,hj,hn⟩:=DC T.ri T.ro;obtain⟨L,hL,e⟩:=E4 T.m _ (bits_le t.mask h) h hj;obtain⟨n,hn',e2⟩:=CC t.mask (Rt h % (t.mask+1)) (Rt h) L;refine⟨n,by lia,?_⟩;have e3:(walk t.mask (st t.mask h) n).j=j:=by have:walk t.mask (st t.mask h) n=_:=e2;rw[this];exact e
 rw[e3];exact hn
theorem least {P:Nat->Prop}{e:Nat}(h:P e):∃ n,n<=e/\P n/\∀ m,m<n->¬ P m:=by
 induction e using Nat.strongRecOn with
 | ind e ih =>
  by_cases q:∃ m,m<e/\P m
  ·obtain⟨m,hm,pm⟩:=q;obtain⟨n,a,b,c⟩:=ih m hm pm;exact⟨n,by lia,b,c⟩
  ·exact⟨e,ar _,h,λ m hm pm=>q ⟨m,hm,pm⟩⟩
theorem DD {t:SetTable}{hs:List Int}(T:TOk t hs)(h:Int):∃ e,e<10*SetTable.turns t.mask/\¬ Occ t (walk t.mask (st t.mask h) e).j/\∀ m,m<e->Occ t (walk t.mask (st t.mask h) m).j:=by obtain⟨e,he,hn⟩:=HS T h;obtain⟨n,h1,h2,h3⟩:=least (P:=λ n=>¬ Occ t (walk t.mask (st t.mask h) n).j) hn;exact⟨n,by lia,h2,λ m hm=>aX (h3 m hm)⟩
theorem zZ {t:SetTable}{hs:List Int}(T:TOk t hs){hashAt:Nat->Int}{h:Int}{e:Nat}(he:¬ Occ t (walk t.mask (st t.mask h) e).j)(hb:∀ m,m<e->Occ t (walk t.mask (st t.mask h) m).j) :
  ∀ (fuel n:Nat),n<=e->e<n+fuel->SetTable.probe.go t hashAt h fuel (walk t.mask (st t.mask h) n)=My (.empty (walk t.mask (st t.mask h) e).j Rl)/\(∀ m,n<=m->m<e->∀ i:Nat,t.place[i]?=My (walk t.mask (st t.mask h) m).j->hashAt i≠h) \/
   ∃ m i:Nat,n<=m/\m<e/\t.place[i]?=My (walk t.mask (st t.mask h) m).j/\hashAt i=h/\(∀ m',n<=m'->m'<m->∀ i:Nat,t.place[i]?=My (walk t.mask (st t.mask h) m').j->hashAt i≠h) /\
    SetTable.probe.go t hashAt h fuel (walk t.mask (st t.mask h) n)=My (.candidate (walk t.mask (st t.mask h) m).j i (walk t.mask (st t.mask h) (m+1)))
 | 0,n,h1,h2=>by lia
 | fuel+1,n,h1,h2=>by
  by_cases q:n=e
  ·subst q;refine .inl ⟨?_,λ m a b=>by lia⟩;unfold SetTable.probe.go;rw[Bz T.d he];dsimp only;rw[vx];rfl
  ·obtain⟨i,hi⟩:=hb n (by lia)
   by_cases hh:hashAt i=h
   ·refine .inr ⟨n,i,ar _,by lia,hi,hh,λ m' a b=>by lia,?_⟩;unfold SetTable.probe.go;rw[tE T.ri hi];dsimp only;rw[ai (by simpa using hh),vv];rfl
   ·have stp:SetTable.probe.go t hashAt h (fuel+1) (walk t.mask (st t.mask h) n)=SetTable.probe.go t hashAt h fuel (walk t.mask (st t.mask h) (n+1)):=by
     rw[SetTable.probe.go];rw[tE T.ri hi];dsimp only;rw[aq (by simpa using hh),vv];rfl
    have skip:∀ m',n<=m'->¬ n+1<=m'->∀ i:Nat,t.place[i]?=My (walk t.mask (st t.mask h) m').j->hashAt i≠h:=λ m' a b i' e'=>by
     have:m'=n:=by lia
     subst this;have:i'=i:=(below_at T.ri e').symm.trans (below_at T.ri hi);rw[this];exact hh
    rcases zZ T he hb fuel (n+1) (by lia) (by lia) with⟨a,b⟩ | ⟨m,i',a1,a2,a3,a4,a5,a6⟩
    ·refine .inl ⟨stp.trans a,λ m hm1 hm2=>?_⟩
     by_cases hm:n+1<=m
     ·exact b m hm hm2
     ·exact skip m hm1 hm
    ·refine .inr ⟨m,i',by lia,a2,a3,a4,λ m' hm1 hm2=>?_,stp.trans a6⟩
     by_cases hm:n+1<=m'
     ·exact a5 m' hm hm2
     ·exact skip m' hm1 hm
theorem CF {α:Type}(xs:Array α)(p:Nat)(x:α)(hp:p<=xs.size)(k:Nat):(SetTable.insertAt xs p x)[k]?=if k<p then xs[k]? else if k=p then My x else xs[k-1]?:=by
 rw[<-bh,en,<-bh,<-bh];have hl:(xs.toList.take p).length=p:=by rw[bf];simp;lia
 by_cases h1:k<p
 ·rw[ai h1,bL (by lia),eg h1]
 ·rw[aq h1,bH (by lia),hl]
  by_cases h2:k=p
  ·rw[ai h2,h2,Nat.sub_self];rfl
  ·rw[aq h2];obtain⟨c,hc⟩:∃ c,k-p=c+1:=⟨k-p-1,by lia⟩;rw[hc,bZ,List.getElem?_drop];congr 1;lia
theorem rF {α:Type}(xs:Array α)(p:Nat)(x:α):(SetTable.insertAt xs p x).size=xs.size+1:=by have:=(SetTable.insertAt_perm xs p x).length_eq;simpa using this
theorem Ll {t:SetTable}{hs:List Int}(T:TOk t hs){h:Int}{e:Nat}(he:¬ Occ t (walk t.mask (st t.mask h) e).j)(hb:∀ m,m<e->Occ t (walk t.mask (st t.mask h) m).j)(hj:(walk t.mask (st t.mask h) e).j<=t.mask)(hr:t.place.size+1<=t.mask){led plain:Bool} :
  TOk {(t.put (walk t.mask (st t.mask h) e).j).1 with plain:=plain} ((SetTable.insertAt hs.toArray (Rq t.place (walk t.mask (st t.mask h) e).j) h).toList):=by
 generalize hjj:(walk t.mask (st t.mask h) e).j=j at *;obtain⟨b1,b2,b3⟩:=vq T.ri j;generalize hp:Rq t.place j=p at *;have pl:((t.put j).1).place=SetTable.insertAt t.place p j:=by rw[<-hp];rfl
 have dm:((t.put j).1).dummies=#[]:=by show(if SetTable.has t.dummies j then _ else _)=_;rw[aq,T.d];rw[T.d];simp[SetTable.has]
 have get:=CF t.place p j b1;have old:∀ x,Occ t x->Occ {(t.put j).1 with plain:=plain} x:=λ x ⟨i,hi⟩=>by
  by_cases hip:i<p
  ·exact⟨i,by show(t.put j).1.place[i]?=_;rw[pl,get,ai hip];exact hi⟩
  ·refine⟨i+1,?_⟩;show(t.put j).1.place[i+1]?=_;rw[pl,get,aq (by lia),aq (by lia)];exact hi
 have gh:=CF hs.toArray p h (by rw[ao,<-T.sz];exact b1);refine⟨T.m,dm,?_,λ i x hx=>?_,?_,?_,λ i x h' hx hh=>?_⟩
 ·intro a b x y hab hx hy
  have hx:(t.put j).1.place[a]?=My x:=hx;have hy:(t.put j).1.place[b]?=My y:=hy;rw[pl,get]at hx hy;by_cases ha:a<p
  ·rw[ai ha]at hx
   by_cases hb':b<p
   ·rw[ai hb']at hy;exact T.ri a b x y hab hx hy
   ·rw[aq hb']at hy
    by_cases hb2:b=p
    ·rw[ai hb2]at hy;cases hy;exact b2 a x ha hx
    ·rw[aq hb2]at hy;exact T.ri a (b-1) x y (by lia) hx hy
  ·rw[aq ha]at hx
   rw[aq (by lia),aq (by lia)]at hy;by_cases ha2:a=p
   ·rw[ai ha2]at hx;cases hx
    have:=b3 (b-1) y (by lia) hy;rcases Nat.lt_or_eq_of_le this with q | q
    ·exact q
    ·exact absurd ⟨b-1,by rw[q];exact hy⟩ he
   ·rw[aq ha2]at hx;exact T.ri (a-1) (b-1) x y (by lia) hx hy
 ·have hx:(t.put j).1.place[i]?=My x:=hx
  rw[pl,get]at hx;show x<=t.mask;by_cases h1:i<p
  ·rw[ai h1]at hx;exact T.le i x hx
  ·rw[aq h1]at hx
   by_cases h2:i=p
   ·rw[ai h2]at hx;cases hx;exact hj
   ·rw[aq h2]at hx;exact T.le _ x hx
 ·show(t.put j).1.place.size=_;rw[pl,rF,bx,rF,T.sz];simp
 ·show(t.put j).1.place.size<=t.mask;rw[pl,rF];exact hr
 ·have hx:(t.put j).1.place[i]?=My x:=hx
  rw[bh,gh]at hh;rw[pl,get]at hx;show Reach t.mask h' _ x;by_cases h1:i<p
  ·rw[ai h1]at hx hh;exact(T.rc i x h' hx (by simpa using hh)).mono old
  ·rw[aq h1]at hx hh
   by_cases h2:i=p
   ·rw[ai h2]at hx hh;cases hx;cases hh;exact⟨e,hjj,λ m hm=>old _ (hb m hm)⟩
   ·rw[aq h2]at hx hh;exact(T.rc (i-1) x h' hx (by simpa using hh)).mono old
def uA (owner:Array (gF Nat))(x:Nat):Prop:=∃ i:Nat,owner[x]?=My (My i)
theorem getD_none {owner:Array (gF Nat)}{x:Nat}(hx:x<owner.size):(owner.getD x (My 0)).isNone=Rm↔¬ uA owner x:=by
 rw[bF];have e:owner[x]?=My owner[x]:=by simp[hx]
 rw[e,dZ];unfold uA;rw[e];cases owner[x] with
 | none=>simp
 | some i=>simp
theorem pG {mask i:Nat}(hi:i<=mask):Rr mask i<=mask/\i<=Rr mask i:=by unfold Rr;split<;>lia
theorem CG {mask:Nat}{owner:Array (gF Nat)}(hsz:owner.size=mask+1){h:Int}:∀ (fuel i perturb n0:Nat),walk mask (st mask h) n0=bdy mask i perturb->i<=mask->(∀ m,m<n0->uA owner (walk mask (st mask h) m).j) ->
  (∃ L,L<fuel/\¬ uA owner (lp mask i perturb L).1)->∃ j,SetTable.layClean.free mask owner fuel i perturb=My j/\¬ uA owner j/\j<=mask/\Reach mask h (uA owner) j
 | 0,i,perturb,n0,_,_,_,⟨L,hL,_⟩=>absurd hL (df _)
 | fuel+1,i,perturb,n0,hw,hi,hb,⟨L,hL,hl⟩=>by
  obtain⟨r1,r2⟩:=pG hi;have at_k:∀ k,k<=Rr mask i-i->(walk mask (st mask h) (n0+k)).j=i+k:=λ k hk=>by rw[<-rE,hw,BA mask i perturb k hk]
  unfold SetTable.layClean.free;cases q:(Ro (Rr mask i+1-i)).find? λ k=>(owner.getD (i+k) (My 0)).isNone with
  | some k =>
   obtain⟨q1,q2,q3⟩:=List.find?_range_eq_some.mp q;have q2:=aD.mp q2;refine⟨i+k,rfl,(getD_none (by lia)).mp q1,by lia,n0+k,at_k k (by lia),λ m hm=>?_⟩;by_cases h1:m<n0
   ·exact hb m h1
   ·obtain⟨c,rfl⟩:∃ c,m=n0+c:=⟨m-n0,by lia⟩;rw[at_k c (by lia)];refine aX λ hn=>?_;have:=q3 c (by lia);rw[(getD_none (by lia)).mpr hn]at this;simp at this
  | none =>
   have all:=List.find?_range_eq_none.mp q;have occ:∀ k,k<=Rr mask i-i->uA owner (i+k):=λ k hk=>by refine aX λ hn=>?_;have:=all k (by lia);rw[(getD_none (by lia)).mpr hn]at this;simp at this
   dsimp only;refine CG hsz fuel _ _ (n0+(Rr mask i-i+1)) ?_ ?_ (λ m hm=>?_) ?_
   ·rw[<-rE,hw,zY]
   ·exact cy (f9 _ (f_ _))
   ·by_cases h1:m<n0
    ·exact hb m h1
    ·obtain⟨c,rfl⟩:∃ c,m=n0+c:=⟨m-n0,by lia⟩;rw[at_k c (by lia)];exact occ c (by lia)
   ·cases L with
    | zero=>exact absurd (occ 0 (aQ _)) hl
    | succ L =>refine⟨L,by lia,?_⟩;have e:=BB mask i perturb 1 L;rw[Nat.add_comm 1 L]at e;rw[e]at hl;exact hl
structure BC (mask:Nat)(hs:List Int)(k:Nat)(owner:Array (gF Nat)):Prop where
 sz:owner.size=mask+1
 lt:∀ (j i:Nat),owner[j]?=My (My i)->i<k
 one:∀ (i:Nat),i<k->∃ j:Nat,owner[j]?=My (My i)
 inj:∀ (j j' i:Nat),owner[j]?=My (My i)->owner[j']?=My (My i)->j=j'
 rc:∀ (j i:Nat) (h:Int),owner[j]?=My (My i)->hs[i]?=My h->Reach mask h (uA owner) j
theorem BC.room {mask:Nat}{hs:List Int}{k:Nat}{owner:Array (gF Nat)}(O:BC mask hs k owner)(hk:k<=mask):∃ j,j<=mask/\¬ uA owner j:=by
 refine aX λ hn=>?_;have all:∀ j,j<=mask->uA owner j:=λ j hj=>aX λ h=>hn ⟨j,hj,h⟩;let f:Nat->Nat:=λ j=>((owner[j]?).getD Rl).getD 0;have hf:∀ j,j<=mask->owner[j]?=My (My (f j)):=λ j hj=>by obtain⟨i,e⟩:=all j hj;show owner[j]?=My (My (((owner[j]?).getD Rl).getD 0));rw[e];rfl
 have nd:((Ro (mask+1)).map f).Nodup:=by rw[aI,bp];refine(aI.mp cM).imp_of_mem λ{a b} ha hb ne e=>ne ?_;have ha:=hf a (cy (aD.mp ha));have hb:=hf b (cy (aD.mp hb));rw[e]at ha;exact O.inj a b _ ha hb
 have:=vy _ (Ro k) nd λ x hx=>by obtain⟨j,hj,e⟩:=aA.mp hx;rw[<-e];exact aD.mpr (O.lt j _ (hf j (cy (aD.mp hj))))
 simp at this;lia
set_option tactic.hygienic true in
theorem z0 {mask:Nat}(m:Mk mask)(hs:List Int)(hn:hs.length<=mask):∀ (rest pre:List Int) (owner:Array (gF Nat)),hs=pre++rest->BC mask hs pre.length owner ->
  ∃ owner',(rest.foldl (λ(acc:gF (Array (gF Nat)×Nat)) h=>do
   let (owner,k)<-acc;let j<-SetTable.layClean.free mask owner (SetTable.turns mask) (Rt h % (mask+1)) (Rt h)
   pure (owner.setIfInBounds j (My k),k+1)) (My (owner,pre.length)))=My (owner',hs.length)/\BC mask hs hs.length owner'
 | [],pre,owner,e,O=>by rw[bt]at e;subst e;exact⟨owner,rfl,O⟩
 | h::rest,pre,owner,e,O=>by
  have hl:pre.length<hs.length:=by rw[e];simp
  obtain⟨j0,hj0,hn0⟩:=O.room (by lia);obtain⟨L,hL,eL⟩:=E4 m _ (bits_le mask h) h hj0;obtain⟨j,hf,nj,hj,rj⟩:=CG O.sz (h:=h) (SetTable.turns mask) _ _ 0 rfl (bits_le mask h) (λ m hm=>absurd hm (df _)) ⟨L,hL,by rw[eL];exact hn0⟩;have hjs:j<owner.size:=by rw[O.sz];lia
  have get:∀ x:Nat,(owner.setIfInBounds j (My pre.length))[x]?=if j=x then My (My pre.length) else owner[x]?:=λ x=>by
   rw[Array.getElem?_setIfInBounds];by_cases q:j=x
   ·subst q;simp[hjs]
   ·simp[q]
  have mono:∀ x,uA owner x->uA (owner.setIfInBounds j (My pre.length)) x:=λ x ⟨i,hx⟩=>by
   by_cases q:j=x
   ·exact⟨_,by rw[get,ai q]⟩
   ·exact⟨i,by rw[get,aq q];exact hx⟩
  have O':BC mask hs (pre++[h]).length (owner.setIfInBounds j (My pre.length)):=by
   rw[aC,aZ];refine⟨by rw[Array.size_setIfInBounds];exact O.sz,λ x i hx=>?_,λ i hi=>?_,λ x y i hx hy=>?_,λ x i h' hx hh=>?_⟩
   ·rw[get]at hx
    split at hx
    ·cases hx;lia
    ·have:=O.lt x i hx;lia
   ·by_cases q:i=pre.length
    ·exact⟨j,by rw[get,ai rfl,q]⟩
    ·obtain⟨x,hx⟩:=O.one i (by lia);exact⟨x,by rw[get,aq (λ z=>nj ⟨i,by rw[z];exact hx⟩)];exact hx⟩
   ·rw[get]at hx hy
    split at hx
    ·cases hx
     split at hy
     ·lia
     ·exact absurd (O.lt y _ hy) (aW _)
    ·split at hy
     ·cases hy;exact absurd (O.lt x _ hx) (aW _)
     ·exact O.inj x y i hx hy
   ·rw[get]at hx
    split at hx
    ·rename_i q
     cases hx;subst q;have:h'=h:=by rw[e,bH (ar _),Nat.sub_self]at hh;simpa using hh.symm
     subst this;exact rj.mono mono
    ·exact(O.rc x i h' hx hh).mono mono
  obtain⟨owner',e',O''⟩:=z0 m hs hn rest (pre++[h]) _ (by rw[e,cw];rfl) O';refine⟨owner',?_,O''⟩;rw[cH,<-e'];congr 1;show(do let j<-SetTable.layClean.free mask owner (SetTable.turns mask) (Rt h % (mask+1)) (Rt h);pure (owner.setIfInBounds j (My pre.length),pre.length+1))=_;rw[hf,aC,aZ];rfl
theorem Lm {mask:Nat}(m:Mk mask)(hs:List Int)(hn:hs.length<=mask):∃ owner,SetTable.layClean mask hs.toArray=My owner/\BC mask hs hs.length owner:=by
 have O0:BC mask hs ([]:List Int).length (Array.replicate (mask+1) Rl):=by
  have no:∀ (x i:Nat),¬ (Array.replicate (mask+1) (Rl:gF Nat))[x]?=My (My i):=λ x i h=>by rw[Array.getElem?_replicate]at h;split at h<;>cases h
  exact⟨by simp,λ x i h=>(no x i h).elim,λ i hi=>absurd hi (df _),λ x y i h=>(no x i h).elim,λ x i h' h=>(no x i h).elim⟩
 obtain⟨owner,e,O⟩:=z0 m hs hn hs [] _ rfl O0;refine⟨owner,?_,O⟩;unfold SetTable.layClean;rw[List.foldl_toArray];have e:hs.foldl _ (My (Array.replicate (mask+1) Rl,0))=My (owner,hs.length):=e;rw[e];rfl
theorem BD {α:Type}(hs:List α)(d:α):∀ (l:List Nat),(∀ i∈l,i<hs.length)->l.filterMap (λ i=>hs[i]?)=l.map λ i=>hs.getD i d
 | [],_=>rfl
 | i::r,h=>by
  have hi:=h i ay;rw[aS,<-BD hs d r λ x hx=>h x (aw _ hx),bE];have e:hs[i]?=My (hs.getD i d):=by rw[aF];simp[hi]
  rw[e]
theorem vz (owner:Array (gF Nat)):∀ (l:List Nat),(l.filterMap λ j=>(owner.getD j Rl).map (j,·)).map (·.1)=l.filter λ j=>(owner.getD j Rl).isSome
 | []=>rfl
 | j::r=>by
  rw[bE,List.filter_cons];cases e:owner.getD j Rl with
  | none=>simpa using vz owner r
  | some i=>simpa using vz owner r
theorem HU {mask:Nat}(m:Mk mask)(hs:List Int)(hn:hs.length<=mask)(finger moves:Nat)(led plain:Bool):∃ t order,SetTable.laid mask finger moves led plain hs.toArray=My (t,order)/\t.mask=mask/\t.led=led/\t.plain=plain /\
  List.Perm order.toList (Ro hs.length)/\TOk t (order.toList.filterMap λ i=>hs[i]?):=by
 obtain⟨owner,e,O⟩:=Lm m hs hn;let live:=(Ro (mask+1)).filterMap λ j=>(owner.getD j Rl).map (j,·);have mem:∀ j i,(j,i)∈live↔j<=mask/\owner[j]?=My (My i):=λ j i=>by
  show(j,i)∈(Ro (mask+1)).filterMap _↔_;rw[cU];have gd:∀ (x y:Nat),owner.getD x Rl=My y↔owner[x]?=My (My y):=λ x y=>by
   rw[bF];cases owner[x]? with
   | none=>simp
   | some v=>simp
  refine⟨λ⟨a,ha,q⟩=>?_,λ⟨h1,h2⟩=>⟨j,aD.mpr (by lia),by rw[(gd j i).mpr h2];rfl⟩⟩;cases w:owner.getD a Rl with
  | none=>rw[w]at q;cases q
  | some y =>rw[w]at q;have q:(a,y)=(j,i):=ak q;cases q;exact⟨cy (aD.mp ha),(gd _ _).mp w⟩
 have fst:live.map (·.1)=(Ro (mask+1)).filter λ j=>(owner.getD j Rl).isSome:=vz owner _;have pw:(live.map (·.1)).Pairwise (·<·):=by rw[fst];exact dY _ dO
 have pw2:live.Pairwise λ a b=>a.1<b.1:=bp.mp pw;have nd:(live.map (·.2)).Nodup:=by rw[aI,bp];refine pw2.imp_of_mem λ{a b} ha hb hlt e=>?_;have h1:=((mem a.1 a.2).mp ha).2;have h2:=((mem b.1 b.2).mp hb).2;rw[e]at h1;have:=O.inj _ _ _ h1 h2;lia
 have perm:List.Perm (live.map (·.2)) (Ro hs.length):=by refine(fJ nd cM).mpr λ i=>?_;rw[aA,aD];refine⟨λ⟨a,ha,q⟩=>q▸O.lt _ _ ((mem a.1 a.2).mp ha).2,λ hi=>?_⟩;obtain⟨j,hj⟩:=O.one i hi;have:j<owner.size:=(cq.mp hj).1;exact⟨(j,i),(mem j i).mpr ⟨by rw[O.sz]at this;lia,hj⟩,rfl⟩
 have hlen:live.length=hs.length:=by have:=perm.length_eq;simpa using this
 refine⟨{mask,place:=(live.map (·.1)).toArray,dummies:=#[],finger,led,moves,plain},(live.map (·.2)).toArray,?_,rfl,rfl,rfl,perm,⟨m,rfl,?_,?_,?_,?_,?_⟩⟩
 ·unfold SetTable.laid;rw[e];rfl
 ·intro a b x y hab hx hy
  have hx:(live.map (·.1))[a]?=My x:=by simpa using hx
  have hy:(live.map (·.1))[b]?=My y:=by simpa using hy
  obtain⟨l1,e1⟩:=aL.mp hx;obtain⟨l2,e2⟩:=aL.mp hy;have:=bM.mp pw a b l1 l2 hab;rw[e1,e2]at this;exact this
 ·intro i j hx
  have hx:(live.map (·.1))[i]?=My j:=by simpa using hx
  obtain⟨a,ha,q⟩:=aA.mp (aY hx);subst q;exact((mem a.1 a.2).mp ha).1
 ·show(live.map (·.1)).toArray.size=_;rw[BD hs 0 _ λ i hi=>aD.mp (perm.mem_iff.mp hi)];simp
 ·show(live.map (·.1)).toArray.size<=mask;simp[hlen];lia
 ·intro i j h hx hh
  have hx:(live.map (·.1))[i]?=My j:=by simpa using hx
  rw[BD hs 0 _ λ i hi=>aD.mp (perm.mem_iff.mp hi)]at hh;rw[aJ]at hx;rw[aJ,aJ]at hh;cases w:live[i]? with
  | none=>rw[w]at hx;cases hx
  | some a =>
   rw[w]at hx hh;have hx:a.1=j:=ak hx;have hh:hs.getD a.2 0=h:=ak hh;have ha:=((mem a.1 a.2).mp (aY w)).2;subst hx;refine(O.rc a.1 a.2 h ha ?_).mono λ x ⟨i',hx⟩=>?_
   ·have:=O.lt _ _ ha;rw[<-hh,aF];simp[this]
   ·have hlt:x<owner.size:=(cq.mp hx).1;have hm:(x,i')∈live:=(mem x i').mpr ⟨by rw[O.sz]at hlt;lia,hx⟩;obtain⟨k,hk,ek⟩:=bW hm;refine⟨k,?_⟩;show(live.map (·.1)).toArray[k]?=My x;simp[hk,ek]
open PySem.Spec PyProof.Rows
section
variable {prog:Program}{w:World}{A:Around}{E:gE}{s:gJ}{G:List Int->Addr->Prop}
abbrev lj (prog:Program)(w:World)(h:Heap)(ks:List Int)(a:Addr):Prop:=IsTupleKey (intKind prog w) h ks a
theorem items_int {ks:List Int}{vs:List gH}(h:ItemsAre (intKind prog w) ks vs):∀ v∈vs,∃ i t,v=Value.int i t:=by
 induction h with
 | nil=>intro v hv;cases hv
 | cons h1 _ ih =>
  intro v hv;rcases ax.mp hv with rfl | hv
  ·obtain⟨t,e⟩:=eK h1;exact⟨_,t,e⟩
  ·exact ih v hv
theorem DF {ks:List Int}{a:Addr}{Q:Bool->gJ->Prop}(hk:lj prog w s.heap ks a)(h:Q Rm s):wpAny (model prog w) A (hashByValue 8 (.ref a)) Q E s:=by
 have hT:=hk.typeIs;obtain⟨o,items,n,ho,_,hd,hi⟩:=hk;have hin:=items_int hi;unfold hashByValue;refine ae (wpAny_specialOf hT F.slot_tuple_hash.lookup ?_);dsimp only;refine ae (cB ho hd ?_);refine ae ?_;show wpAny _ _ (forIn items _ _) _ _ s;rw[<-Array.forIn_toList];refine wpAny_forIn_list _ (λ rest r s'=>r.1=Rl/\s'=s/\∀ v∈rest,∃ i t,v=Value.int i t) _ ?_ ?_ _ _ ⟨rfl,rfl,hin⟩
 ·rintro v rest r s' ⟨hr,rfl,hall⟩;obtain⟨i,t,rfl⟩:=hall v ay;refine ae (af ?_);simp only[dS,aR,cp];exact af ⟨rfl,rfl,λ u hu=>hall u (aw _ hu)⟩
 ·rintro⟨r1,r2⟩ s' ⟨hr,rfl,_⟩;simp only at hr;subst hr;exact af h
theorem xQ {ks:List Int}{a:Addr}{Q:Bool->gJ->Prop}(hk:lj prog w s.heap ks a)(h:Q Rn s):wpAny (model prog w) A (ofAClassStatement 8 (.ref a)) Q E s:=by
 have hT:=hk.typeIs;obtain⟨o,items,n,ho,_,hd,hi⟩:=hk;have hin:=items_int hi;unfold ofAClassStatement;refine ae (eR hT ?_);dsimp only;rw[ai (by decide)];refine ae (af ?_);simp only[dS,aR,cp];refine ae (cB ho hd ?_);dsimp only;refine ae ?_;show wpAny _ _ (forIn items _ _) _ _ s;rw[<-Array.forIn_toList];refine wpAny_forIn_list _ (λ rest r s'=>r.1=Rl/\s'=s/\∀ v∈rest,∃ i t,v=Value.int i t) _ ?_ ?_ _ _ ⟨rfl,rfl,hin⟩
 ·rintro v rest r s' ⟨hr,rfl,hall⟩;obtain⟨i,t,rfl⟩:=hall v ay;refine ae (af ?_);simp only[aR,cp];exact af ⟨rfl,rfl,λ u hu=>hall u (aw _ hu)⟩
 ·rintro⟨r1,r2⟩ s' ⟨hr,rfl,_⟩;simp only at hr;subst hr;exact af h
theorem HV {k:List Int}{b:Addr}{stored:List gH}{Q:Bool->gJ->Prop}(hk:lj prog w s.heap k b)(hs:∀ v∈stored,∃ c k',v=Value.ref c/\lj prog w s.heap k' c)(h:Q Rn s):wpAny (model prog w) A (searchCouldBeSeen (.ref b) stored) Q E s:=by
 unfold searchCouldBeSeen;refine ae ?_;refine wpAny_forIn_list _ (λ rest r s'=>r.1=Rl/\s'=s/\∀ v∈rest,∃ c k',v=Value.ref c/\lj prog w s.heap k' c) _ ?_ ?_ _ _ ⟨rfl,rfl,hs⟩
 ·rintro v rest r s' ⟨hr,rfl,hall⟩
  obtain⟨c,k',rfl,hc⟩:=hall v ay;have nxt:∀ v∈rest,∃ c k',v=Value.ref c/\lj prog w s'.heap k' c:=λ u hu=>hall u (aw _ hu);dsimp only;split
  ·exact af ⟨rfl,rfl,nxt⟩
  ·refine ae (wpAny_eqIsQuiet_tuple hk ?_);simp only[dS,aR,cp];refine ae (wpAny_eqIsQuiet_tuple hc ?_);simp only[dS,aR,cp];refine ae (xQ hk ?_);simp only[aR,cp];refine ae (xQ hc ?_);simp only[aR,cp];exact af ⟨rfl,rfl,nxt⟩
 ·rintro⟨r1,r2⟩ s' ⟨hr,rfl,_⟩;simp only at hr;subst hr;exact af h
def tF (G:List Int->Addr->Prop)(prog:Program)(w:World)(h:Heap)(ks:List (List Int))(es:List (Int×gH)):Prop:=Paired (λ k e=>∃ b,e=(tupleKeyHash (intKind prog w) k,Value.ref b)/\lj prog w h k b/\G k b) ks es
theorem tF.get {h:Heap}:∀ {ks:List (List Int)} {es:List (Int×gH)},tF G prog w h ks es->∀ (i:Nat) (e:Int×gH),es[i]?=My e->∃ k b,ks[i]?=My k/\e=(tupleKeyHash (intKind prog w) k,Value.ref b)/\lj prog w h k b/\G k b
 := by
  intro ks es h;induction h with
  | nil=>intro i e q;simp at q
  | cons z r ih =>
    intro i e q;cases i with
    | zero =>rw[eJ]at q;cases q;obtain⟨b,e1,hb⟩:=z;exact⟨_,b,rfl,e1,hb⟩
    | succ i =>rw[bZ]at q;obtain⟨k,b,h1,h2⟩:=ih i e q;exact⟨k,b,by rw[bZ];exact h1,h2⟩
theorem fits_of {t:SetTable}{hs:List Int}(T:TOk t hs){n:Nat}(hn:n=hs.length):t.fits n=Rm:=by unfold SetTable.fits SetTable.fill;have h1:=T.sz;have h2:=T.ro;have h3:=T.d;simp[h3,hn,h1];lia
theorem ub {a:Addr}{o:Obj}{es:Array (Int×gH)}{ep:Nat}{t:SetTable}{ks:List (List Int)}{k:List Int}{b:Addr}{Q:SetFound->gJ->Prop}(hu:A.units<cLine)
  (ho:s.heap.get? a=My o) (hd:o.data=.set es ep t) (T:TOk t (es.toList.map (·.1))) (En:tF G prog w s.heap ks es.toList) (hk:lj prog w s.heap k b)
  {e:Nat} (he:¬ Occ t (walk t.mask (st t.mask (tupleKeyHash (intKind prog w) k)) e).j) (hb:∀ m,m<e->Occ t (walk t.mask (st t.mask (tupleKeyHash (intKind prog w) k)) m).j) (hf:e<10*SetTable.turns t.mask)
  (h1:k∈ks->Q (.there Rl) s) (h2:(∀ m,m<e->∀ i:Nat,t.place[i]?=My (walk t.mask (st t.mask (tupleKeyHash (intKind prog w) k)) m).j->ks[i]?≠My k)->Q (.free (walk t.mask (st t.mask (tupleKeyHash (intKind prog w) k)) e).j Rn) s) :
  ∀ (fuel n:Nat) (stand:gF SetTable.Probe),n<=e->e<n+fuel->stand.getD (t.probeStart (tupleKeyHash (intKind prog w) k))=walk t.mask (st t.mask (tupleKeyHash (intKind prog w) k)) n ->
   (∀ m,m<n->∀ i:Nat,t.place[i]?=My (walk t.mask (st t.mask (tupleKeyHash (intKind prog w) k)) m).j->ks[i]?≠My k)->wpAny (model prog w) A (setSearchFrom a (.ref b) (tupleKeyHash (intKind prog w) k) Rm fuel stand) Q E s
 | 0,n,stand,a1,a2,_,_=>by lia
 | fuel+1,n,stand,a1,a2,a3,a4=>by
  have hfit:=fits_of T (n:=es.size) (by simp);unfold setSearchFrom;refine ae (cn ho hd hfit ?_);dsimp only;have hgw:t.gaveWay=Rn:=by unfold SetTable.gaveWay;rcases T.m with z | z | z<;>rw[z]<;>decide
  rw[hgw];simp only[aR,cp];rw[a3];generalize hpr:SetTable.probe t _ (tupleKeyHash (intKind prog w) k) _=r;obtain⟨f,hff,hpr⟩:∃ f:Nat->Int,(∀ i,f i=((es[i]?.map (·.1)).getD 0))/\SetTable.probe t f (tupleKeyHash (intKind prog w) k) (walk t.mask (st t.mask (tupleKeyHash (intKind prog w) k)) n)=r:=⟨_,λ _=>rfl,hpr⟩;unfold SetTable.probe at hpr;have keyOf:∀ (i j:Nat),t.place[i]?=My j->∃ k' b',ks[i]?=My k'/\es[i]?=My (tupleKeyHash (intKind prog w) k',Value.ref b')/\lj prog w s.heap k' b':=λ i j hj=>by
   have hi:i<es.size:=by have:=(cq.mp hj).1;rw[T.sz]at this;simpa using this
   obtain⟨k',b',q1,q2,q3⟩:=En.get i es[i] (by simp[hi]);exact⟨k',b',q1,by rw[<-q2];simp[hi],q3.1⟩
  have skipN:∀ m,(∀ i:Nat,t.place[i]?=My (walk t.mask (st t.mask (tupleKeyHash (intKind prog w) k)) m).j->f i≠tupleKeyHash (intKind prog w) k)->∀ i:Nat,t.place[i]?=My (walk t.mask (st t.mask (tupleKeyHash (intKind prog w) k)) m).j->ks[i]?≠My k:=λ m hm i hi hki=>by obtain⟨k',b',q1,q2,_⟩:=keyOf i _ hi;rw[q1]at hki;cases hki;exact hm i hi (by rw[hff,q2];rfl)
  rcases zZ T (hashAt:=f) he hb (10*SetTable.turns t.mask) n a1 (by lia) with⟨p1,p2⟩ | ⟨m,i,b1,b2,b3,b4,b5,b6⟩
  ·rw[p1]at hpr
   subst hpr;dsimp only;refine af (h2 λ m hm=>?_);by_cases hmn:m<n
   ·exact a4 m hmn
   ·exact skipN m (p2 m (by lia) hm)
  ·rw[b6]at hpr
   subst hpr;dsimp only;obtain⟨k',b',q1,q2,q3⟩:=keyOf i _ b3;have cont:wpAny (model prog w) A (do
     let My (_,y):=es[i]? | unsupported "internal:set-entry"
     let equal<-holding [y] (eqBool y (.ref b));let (es',_,t')<-setState a
     if Rm&&equal then return .there Rl
     let My same:=t'.sameMemory t.moves t.mask | unsupported "set.changed-during-lookup:is-the-new-block-at-the-old-address"
     let still<-match (if same then t'.slot (walk t.mask (st t.mask (tupleKeyHash (intKind prog w) k)) m).j else .empty) with
      | .live i'=>match es'[i']? with
       | some (_,y')=>do pure (if<-isSame y' y then My i' else Rl)
       | none=>pure Rl
      | _=>pure Rl
     match still with
     | none=>rule "set.search.anew";setSearchFrom a (.ref b) (tupleKeyHash (intKind prog w) k) Rm fuel Rl
     | some i'=>if equal then return .there (My i') else setSearchFrom a (.ref b) (tupleKeyHash (intKind prog w) k) Rm fuel (My (walk t.mask (st t.mask (tupleKeyHash (intKind prog w) k)) (m+1)))) Q E s:=by
    rw[q2];dsimp only;refine ae (bK (wpAny_eqBool_tuple hu q3 hk ?_));refine ae (cn ho hd hfit ?_);dsimp only;by_cases hkk:k'=k
    ·rw[decide_eq_true hkk];simp only[Bool.and_self,dU];exact af (h1 (aY (hkk▸q1)))
    ·rw[decide_eq_false hkk]
     simp only[fG,aR,cp];have hsm:t.sameMemory t.moves t.mask=My Rm:=by unfold SetTable.sameMemory;simp
     rw[hsm];dsimp only;simp only[dU];rw[tE T.ri b3];dsimp only;rw[q2];dsimp only;refine ae (wpAny_isSame_ref_self ?_);simp only[dU];refine ae (af ?_);dsimp only;refine ub hu ho hd T En hk he hb hf h1 h2 fuel (m+1) _ (by lia) (by lia) rfl λ m' hm'=>?_;by_cases c1:m'<n
     ·exact a4 m' c1
     ·by_cases c2:m'<m
      ·exact skipN m' (b5 m' (by lia) c2)
      ·have:m'=m:=by lia
       subst this;intro i' hi' hki';have:i'=i:=(below_at T.ri hi').symm.trans (below_at T.ri b3);rw[this,q1]at hki';exact hkk (ak hki')
   by_cases hled:t.led=Rm
   ·rw[hled];simp only[dS,aR,cp];exact cont
   ·have hled:t.led=Rn:=by simpa using hled
    rw[hled];simp only[gz,dU];refine ae (HV hk (λ v hv=>?_) ?_)
    ·obtain⟨ev,he1,he2⟩:=aA.mp hv
     have he3:ev∈es.toList:=by have:=he1;rw[Array.toList_filter]at this;exact(bg.mp this).1
     obtain⟨i',hi',ei'⟩:=bW he3;obtain⟨k'',b'',_,q5,q6⟩:=En.get i' ev (by rw[<-ei'];simp[hi']);rw[q5]at he2;exact⟨b'',k'',he2.symm,q6.1⟩
    ·simp only[aR,cp];exact cont
end
set_option tactic.hygienic true in
theorem CH {mask:Nat}(h:Int):∀ n,(walk mask (st mask h) n).j+(walk mask (st mask h) n).more<=mask/\(walk mask (st mask h) n).i<=mask
 | 0=>by have h1:=bits_le mask h;have h2:=pG h1;show Rt h % (mask+1)+(Rr mask (Rt h % (mask+1))-Rt h % (mask+1))<=mask/\Rt h % (mask+1)<=mask;lia
 | n+1=>by
  obtain⟨h1,h2⟩:=CH (mask:=mask) h n;show(adv mask (walk mask (st mask h) n)).j+(adv mask (walk mask (st mask h) n)).more<=mask/\(adv mask (walk mask (st mask h) n)).i<=mask;unfold adv;split
  ·rename_i hm;show(walk mask (st mask h) n).j+1+((walk mask (st mask h) n).more-1)<=mask/\(walk mask (st mask h) n).i<=mask;lia
  ·have h3:(SetTable.leap mask (walk mask (st mask h) n).i (walk mask (st mask h) n).perturb).1<=mask:=cy (f9 _ (f_ _));have h4:=pG h3;dsimp only;lia
theorem E5 {α:Type}(l:List α)(p:Nat)(x:α):(SetTable.insertAt l.toArray p x).toList=l.take p++x::l.drop p:=by rw[en]
theorem uc {α β:Type}{F:α->β->Prop}:∀ {xs:List α} {ys:List β} (n:Nat),Paired F xs ys->Paired F (xs.take n) (ys.take n)
 | _,_,0,_=>.nil
 | _,_,_+1,.nil=>.nil
 | _,_,n+1,.cons h t=>.cons h (uc n t)
theorem ud {α β:Type}{F:α->β->Prop}:∀ {xs:List α} {ys:List β} (n:Nat),Paired F xs ys->Paired F (xs.drop n) (ys.drop n)
 | _,_,0,h=>h
 | _,_,_+1,.nil=>.nil
 | _,_,n+1,.cons _ t=>ud n t
theorem BE {α β:Type}{F:α->β->Prop}:∀ {xs xs':List α} {ys ys':List β},Paired F xs ys->Paired F xs' ys'->Paired F (xs++xs') (ys++ys')
 := by
  intro xs xs' ys ys' h h';induction h with
  | nil=>exact h'
  | cons h t ih=>exact .cons h ih
theorem mT {α β:Type}{F G:α->β->Prop}(k:∀ a b,F a b->G a b):∀ {xs:List α} {ys:List β},Paired F xs ys->Paired G xs ys
 | _,_,.nil=>.nil
 | _,_,.cons h t=>.cons (k _ _ h) (mT k t)
theorem BF {α β:Type}{F:α->β->Prop}:∀ {xs:List α} {ys:List β},Paired F xs ys->∀ (i:Nat) (x:α) (y:β),xs[i]?=My x->ys[i]?=My y->F x y
 := by
  intro xs ys h;induction h with
  | nil=>intro i x y h;simp at h
  | cons h t ih =>
    intro i x y e1 e2;cases i with
    | zero =>rw[eJ]at e1 e2;cases e1;cases e2;exact h
    | succ i =>rw[bZ]at e1 e2;exact ih i x y e1 e2
theorem og {α β:Type}{F:α->β->Prop}{xs:List α}{ys:List β}(P:Paired F xs ys):∀ (l:List Nat),Paired F (l.filterMap λ i=>xs[i]?) (l.filterMap λ i=>ys[i]?)
 | []=>.nil
 | i::r=>by
  have hl:=P.length;rw[bE,bE];by_cases hi:i<xs.length
  ·have e1:xs[i]?=My xs[i]:=by simp[hi]
   have e2:ys[i]?=My (ys[i]'(by lia)):=by simp[show i<ys.length by lia]
   rw[e1,e2];exact .cons (BF P i _ _ e1 e2) (og P r)
  ·have e1:xs[i]?=Rl:=bV (by lia);have e2:ys[i]?=Rl:=bV (by lia);rw[e1,e2];exact og P r
section
variable {prog:Program}{w:World}{A:Around}{E:gE}{s:gJ}{G:List Int->Addr->Prop}
theorem CI {h h':Heap}{k:List Int}{a b:Addr}{o:Obj}{es:Array (Int×gH)}{ep:Nat}{t:SetTable}(x:lj prog w h k b)(ho:h.get? a=My o)(hd:o.data=.set es ep t)(sb:Heap.SameBut a h h'):lj prog w h' k b:=by
 obtain⟨ob,its,n,e1,e2,e3,e4⟩:=x;have:b≠a:=by rintro rfl;rw[e1]at ho;cases ho;rw[e3]at hd;cases hd
 exact⟨ob,its,n,(sb.2 b this).trans e1,e2,e3,e4⟩
theorem tF.sb {h h':Heap}{ks:List (List Int)}{a:Addr}{l:List (Int×gH)}{o:Obj}{es:Array (Int×gH)}{ep:Nat}{t:SetTable}(x:tF G prog w h ks l)(ho:h.get? a=My o)(hd:o.data=.set es ep t)(sb:Heap.SameBut a h h'):tF G prog w h' ks l :=
 mT (λ k e ⟨b,e1,hb⟩=>⟨b,e1,CI hb.1 ho hd sb,hb.2⟩) x
def E6 (mask n:Nat):Prop:=(mask=7/\n<=4)\/(mask=31/\n<=18)\/(mask=127/\n<=76)
def qr (G:List Int->Addr->Prop)(prog:Program)(w:World)(h:Heap)(a:Addr)(ks:List (List Int)):Prop:=∃ o es ep t,h.get? a=My o/\o.ExactSet/\o.data=.set es ep t/\TOk t (es.toList.map (·.1))/\tF G prog w h ks es.toList/\t.plain=Rm/\t.led=!(w.params.followText "set-order")/\E6 t.mask es.size/\ks.Nodup
theorem vA {h:Heap}{a:Addr}{o:Obj}{es es':Array (Int×gH)}{ep:Nat}{t t':SetTable}(ho:h.get? a=My o)(hd:o.data=.set es ep t):(h.update a (Obj.putSet es' t')).get? a=My {o with data:=.set es' (ep+1) t'}:=by have:=c_ (Obj.putSet es' t') ho (by rw[putSet_of es' t' hd];rfl);rw[putSet_of es' t' hd]at this;exact this
theorem DG {a:Addr}{o:Obj}{es:Array (Int×gH)}{ep:Nat}{t:SetTable}{ks:List (List Int)}{n:Nat}{Q:Unit->gJ->Prop}(ho:s.heap.get? a=My o)(hx:o.ExactSet)(hd:o.data=.set es ep t)(T:TOk t (es.toList.map (·.1)))(En:tF G prog w s.heap ks es.toList)
  (hp:t.plain=Rm) (hl:t.led=!(w.params.followText "set-order")) (nd:ks.Nodup) (hm:Mk (SetTable.sizeAbove n-1)) (hn:E6 (SetTable.sizeAbove n-1) es.size)
  (h:∀ h' ks',Heap.SameBut a s.heap h'->List.Perm ks' ks->qr G prog w h' a ks'->Q () {s with heap:=h'}):wpAny (model prog w) A (setRelay a n) Q E s:=by
 unfold setRelay;refine ae (cn ho hd (fits_of T (by simp)) ?_);dsimp only;have hsz:¬ SetTable.sizeAbove n>sizeLine:=by rw[sizeLine_eq];rcases hm with z | z | z<;>lia
 rw[aq hsz];have hes:es.size<=SetTable.sizeAbove n-1:=by rcases hn with⟨z,q⟩ | ⟨z,q⟩ | ⟨z,q⟩<;>lia
 obtain⟨t',order,e,m1,l1,p1,perm,T'⟩:=HU hm (es.toList.map (·.1)) (by simpa using hes) t.finger (t.movedTo (SetTable.sizeAbove n-1)) t.led t.plain;have eL:t.relaid (es.map (·.1)) n=My (t',order):=by unfold SetTable.relaid;rw[<-e];congr 1;apply Array.ext';simp
 rw[eL];have hlen:(order.filterMap λ i=>es[i]?).size=es.size:=by
  have h1:(order.filterMap λ i=>es[i]?).toList=order.toList.filterMap λ i=>es.toList[i]?:=by simp
  have h2:(order.filterMap λ i=>es[i]?).toList.length=es.toList.length:=by rw[h1];have:=(perm.filterMap λ i=>es.toList[i]?).length_eq;rw[this];rw[ah];rw[cC]
  rw[bx,bx]at h2;exact h2
 refine ae ?_;show wpAny _ _ (do
  let es':=order.filterMap λ i=>es[i]?
  if (es'.size != es.size)=Rm then unsupported "internal:set-table-lost-an-element"
  pure (es',t')) _ _ _
 dsimp only;rw[hlen];simp only[bne_self_eq_false,aR,cp];refine af ?_;dsimp only;have sb:=cG s.heap a (Obj.putSet (order.filterMap λ i=>es[i]?) t');refine wpAny_storeSet_of ho hd (h _ (order.toList.filterMap λ i=>ks[i]?) sb ?_ ⟨_,_,_,_,vA ho hd,hx,rfl,?_,?_,p1.trans hp,l1.trans hl,?_,?_⟩) ?_
 ·have hkl:ks.length=es.toList.length:=En.length;have:=perm.filterMap λ i=>ks[i]?;rw[ah,<-hkl,cC]at this;exact this
 ·have e1:(order.filterMap λ i=>es[i]?).toList.map (·.1)=order.toList.filterMap λ i=>(es.toList.map (·.1))[i]?:=by
   rw[Array.toList_filterMap,List.map_filterMap];congr 1;funext i;simp
  rw[e1];exact T'
 ·have:tF G prog w _ ks es.toList:=En.sb ho hd sb;have q:=og this order.toList;rw[Array.toList_filterMap];refine Eq.mp ?_ q;congr 1;congr 1;funext i;simp
 ·rw[m1,hlen];exact hn
 ·have hkl:ks.length=es.toList.length:=En.length;have:=perm.filterMap λ i=>ks[i]?;rw[ah,<-hkl,cC]at this;exact this.nodup_iff.mpr nd
 ·rw[hlen,sizeLine_eq];rcases hn with⟨z,q⟩ | ⟨z,q⟩ | ⟨z,q⟩<;>lia
theorem CJ {a:Addr}{ks:List (List Int)}{k:List Int}{b:Addr}{Q:Bool->gJ->Prop}(hu:A.units<cLine)(S:qr G prog w s.heap a ks)(hk:lj prog w s.heap k b)(hg:G k b)(hn:ks.length<40)
  (h:∀ h' ks' c tk,Heap.SameBut a s.heap h'->qr G prog w h' a ks'->List.Perm ks' (if k∈ks then ks else k::ks)->Q c {s with heap:=h',toks:=tk}):wpAny (model prog w) A (setAdd a (.ref b)) Q E s:=by
 unfold setAdd;refine bK (ae (wpAny_pyHash_tuple hu hk ?_));show wpAny (model prog w) A (setAddHashed a (.ref b) (tupleKeyHash (intKind prog w) k)) Q E {s with toks:=s.toks+(k.length+1)};unfold setAddHashed;refine bK ?_;obtain⟨o,es,ep,t,ho,hx,hd,T,En,hp,hl,hr,nd⟩:=S;have hkl:ks.length=es.size:=by simpa using En.length
 have hfit:=fits_of T (n:=es.size) (by simp);unfold setAddHashedIn;refine ae (cn ho hd hfit ?_);dsimp only;have hbs:byScan (.ref b) es=Rn:=rfl;rw[hbs];simp only[aR,cp];obtain⟨e,he1,he2,he3⟩:=DD T (tupleKeyHash (intKind prog w) k);refine ae ?_;unfold setSearch;refine ub (s:={s with toks:=s.toks+(k.length+1)}) hu ho hd T En hk he2 he3 he1 (λ hin=>?_) (λ hno=>?_) 100000 0 Rl (aQ _) ?_ rfl (λ m hm=>absurd hm (df _))
 ·dsimp only;refine af ?_;have:=h s.heap ks Rn (s.toks+(k.length+1)) (Heap.SameBut.refl a s.heap) ⟨o,es,ep,t,ho,hx,hd,T,En,hp,hl,hr,nd⟩ (by rw[ai hin]);exact this
 ·have hnk:k∉ks:=λ hm=>by
   obtain⟨i,hi,ei⟩:=bW hm;have hki:ks[i]?=My k:=by rw[<-ei];simp[hi]
   have hie:i<es.size:=by lia
   obtain⟨k',b',q1,q2,q3⟩:=En.get i es[i] (by simp[hie]);rw[hki]at q1;cases q1;have hpl:i<t.place.size:=by rw[T.sz];simpa using hie
   have hpi:t.place[i]?=My t.place[i]:=by simp[hpl]
   obtain⟨n,r1,r2⟩:=T.rc i t.place[i] (tupleKeyHash (intKind prog w) k) hpi (by simp[hie,q2]);have hne:n<e:=by
    rcases eS n e with z | z | z
    ·exact z
    ·exact absurd ⟨i,by rw[<-z,r1];exact hpi⟩ he2
    ·exact absurd (r2 e z) he2
   exact hno n hne i (by rw[r1];exact hpi) hki
  dsimp only;refine ae (cn ho hd hfit ?_);dsimp only;have hj:=(CH (mask:=t.mask) (tupleKeyHash (intKind prog w) k) e).1;have hro:t.place.size+1<=t.mask:=by have:=T.sz;rw[ah,bx]at this;rcases hr with⟨z,q⟩ | ⟨z,q⟩ | ⟨z,q⟩<;>lia
  have T1:=Ll T he2 he3 (bA (d4 _ _) hj) hro (led:=Rm) (plain:=Rm);generalize hjj:(walk t.mask (st t.mask (tupleKeyHash (intKind prog w) k)) e).j=j at *;have hpp:(t.put j).1.plain=Rm:=hp;rw[hpp];simp only[dU];refine ae (DF (s:={s with toks:=s.toks+(k.length+1)}) hk ?_);simp only[dU];have ep2:(t.put j).2=Rq t.place j:=rfl;rw[ep2];have tEq:({(t.put j).1 with plain:=Rm}:SetTable)=(t.put j).1:=by
   have:∀ (u:SetTable),u.plain=Rm->({u with plain:=Rm}:SetTable)=u:=λ u hu=>by cases u;cases hu;rfl
   exact this _ hpp
  rw[tEq]at T1;generalize hes1:SetTable.insertAt es (Rq t.place j) (tupleKeyHash (intKind prog w) k,Value.ref b)=es1;have hl1:es1.toList=es.toList.take (Rq t.place j)++(tupleKeyHash (intKind prog w) k,Value.ref b)::es.toList.drop (Rq t.place j):=by rw[<-hes1,en]
  have hs1:es1.size=es.size+1:=by rw[<-hes1,rF]
  have T2:TOk (t.put j).1 (es1.toList.map (·.1)):=by rw[E5]at T1;rw[hl1,bD,aS,List.map_take,List.map_drop];exact T1
  have sb1:=cG s.heap a (Obj.putSet es1 (t.put j).1);have En1:tF G prog w (s.heap.update a (Obj.putSet es1 (t.put j).1)) (ks.take (Rq t.place j)++k::ks.drop (Rq t.place j)) es1.toList:=by rw[hl1];have q:=En.sb ho hd sb1;exact BE (uc _ q) (.cons ⟨b,rfl,CI hk ho hd sb1,hg⟩ (ud _ q))
  have pm:List.Perm (ks.take (Rq t.place j)++k::ks.drop (Rq t.place j)) (k::ks):=by have:=@List.perm_middle _ k (ks.take (Rq t.place j)) (ks.drop (Rq t.place j));rw[List.take_append_drop]at this;exact this
  have nd1:(ks.take (Rq t.place j)++k::ks.drop (Rq t.place j)).Nodup:=pm.nodup_iff.mpr (bu.mpr ⟨hnk,nd⟩);refine ae (wpAny_storeSet_of (s:={s with toks:=s.toks+(k.length+1)}) ho hd ?_ (by rw[hs1,sizeLine_eq];lia));have hpm:∀ ks',List.Perm ks' (ks.take (Rq t.place j)++k::ks.drop (Rq t.place j))->List.Perm ks' (if k∈ks then ks else k::ks):=λ ks' p=>by rw[aq hnk];exact p.trans pm
  by_cases hf:(t.put j).1.tooFull=Rm
  ·rw[hf]
   simp only[gz,Bool.and_self,dU];have hfill:(t.put j).1.fill=es.size+1:=by have h1:=T2.sz;have h2:=T2.d;unfold SetTable.fill;rw[h1,h2];simp[hs1]
   have hff:(es.size+1)*5≥t.mask*3:=by unfold SetTable.tooFull at hf;rw[hfill,show(t.put j).1.mask=t.mask from rfl]at hf;simpa using hf
   have hcase:(t.mask=7/\es.size=4)\/(t.mask=31/\es.size=18):=by
    rcases hr with⟨z,q⟩ | ⟨z,q⟩ | ⟨z,q⟩
    ·rw[z]at hff;exact .inl ⟨z,by lia⟩
    ·rw[z]at hff;exact .inr ⟨z,by lia⟩
    ·rw[z]at hff;lia
   have hsa:SetTable.sizeAbove (SetTable.grown (4+1))=32:=by decide
   have hsb:SetTable.sizeAbove (SetTable.grown (18+1))=128:=by decide
   refine ae (DG (s:={s with heap:=s.heap.update a (Obj.putSet es1 (t.put j).1),toks:=s.toks+(k.length+1)}) (n:=SetTable.grown (es.size+1)) (vA ho hd) hx rfl T2 En1 hpp hl nd1 ?_ ?_ λ h2 ks2 sb2 p2 S2=>?_)
   ·rcases hcase with⟨_,z⟩ | ⟨_,z⟩
    ·rw[z,hsa];exact .inr (.inl rfl)
    ·rw[z,hsb];exact .inr (.inr rfl)
   ·rcases hcase with⟨_,z⟩ | ⟨_,z⟩
    ·rw[z,hsa,hs1,z];exact .inr (.inl ⟨rfl,by lia⟩)
    ·rw[z,hsb,hs1,z];exact .inr (.inr ⟨rfl,by lia⟩)
   ·exact af (h h2 ks2 Rm _ (sb1.trans sb2) S2 (hpm _ p2))
  ·have hf':(t.put j).1.tooFull=Rn:=by simpa using hf
   rw[hf'];simp only[fG,aR,cp];have hfill:(t.put j).1.fill=es.size+1:=by have h1:=T2.sz;have h2:=T2.d;unfold SetTable.fill;rw[h1,h2];simp[hs1]
   have hff:¬ (es.size+1)*5≥t.mask*3:=by unfold SetTable.tooFull at hf';rw[hfill,show(t.put j).1.mask=t.mask from rfl]at hf';simpa using hf'
   refine af (h _ _ Rm _ sb1 ⟨_,es1,_,(t.put j).1,vA ho hd,hx,rfl,T2,En1,hpp,hl,?_,nd1⟩ (hpm _ (gA _)));show E6 t.mask es1.size;rw[hs1];rcases hr with⟨z,q⟩ | ⟨z,q⟩ | ⟨z,q⟩
   ·rw[z]at hff;exact .inl ⟨z,by lia⟩
   ·rw[z]at hff;exact .inr (.inl ⟨z,by lia⟩)
   ·rw[z]at hff;exact .inr (.inr ⟨z,by lia⟩)
 ·have:SetTable.turns t.mask<=142:=by
   unfold SetTable.turns;rcases T.m with z | z | z<;>lia
  lia
end
section
variable {prog:Program}{w:World}{A:Around}{E:gE}{s:gJ}{G:List Int->Addr->Prop}
theorem lO {h h':Heap}{k:List Int}{b:Addr}(x:lj prog w h k b)(kp:∀ o,h.get? b=My o->h'.get? b=My o):lj prog w h' k b :=
 let ⟨o,its,n,e1,e2,e3,e4⟩:=x
 ⟨o,its,n,kp o e1,e2,e3,e4⟩
theorem tF.keep {h h':Heap}{ks:List (List Int)}{es:List (Int×gH)}(x:tF G prog w h ks es)(kp:∀ b o,h.get? b=My o->o.cls=.type "tuple"->h'.get? b=My o):tF G prog w h' ks es :=
 mT (λ k e ⟨b,e1,hb⟩=>⟨b,e1,lO hb.1 (λ o ho=>kp b o ho (by obtain⟨o',its,n,q1,q2,_⟩:=hb.1;rw[q1]at ho;cases ho;exact q2)),hb.2⟩) x
theorem qr.keep {h h':Heap}{a:Addr}{ks:List (List Int)}(S:qr G prog w h a ks)(ka:∀ o,h.get? a=My o->h'.get? a=My o)(kp:∀ b o,h.get? b=My o->o.cls=.type "tuple"->h'.get? b=My o):qr G prog w h' a ks :=
 by
 obtain⟨o,es,ep,t,ho,hx,hd,T,En,r⟩:=S;exact⟨o,es,ep,t,ka o ho,hx,hd,T,En.keep kp,r⟩
theorem E7 {R:Result->gJ->Prop}(hh:A.in1.handled=Rl)(hu:A.in1.units<cLine){S I l:Addr}{items:Array gH}{kk:List (List Int)}(hk:kk.length=items.size)(h40:items.size<=40)(n1:S≠I)(n2:S≠l)(n3:l≠I) :
  ∀ (n i:Nat) (s:gJ) (ks:List (List Int)),items.size-i=n->i<=items.size->s.heap.IsListIter I l i->s.heap.IsList l items->qr G prog w s.heap S ks ->
   (∀ (j:Nat) v,items[j]?=My v->∃ k b,kk[j]?=My k/\v=.ref b/\lj prog w s.heap k b/\G k b)->ks.length<=i->(∀ k,k∈ks↔k∈kk.take i) ->
   (∀ h' tk ks',(∀ b o,b≠S->b≠I->s.heap.get? b=My o->h'.get? b=My o)->qr G prog w h' S ks'->(∀ k,k∈ks'↔k∈kk)->R (.ok (.ret .none)) {s with heap:=h',toks:=tk}) ->
   codeAny (model prog w) A (.builtin "set.update.loop" ⟨[.ref S,.ref I],[]⟩) R s:=by
 intro n;induction n using Nat.strongRecOn with
 | ind n ih =>
  intro i s ks hn hi st hl hS hv hlen hm fin;refine codeAny_builtin F.entry_set_update_loop ?_;rw[fq dE _];have tupI:∀ {h h':Heap} {b:Addr} {o:Obj} {x:Addr} {j:Nat},h.IsListIter x l j->h.get? b=My o->o.cls=.type "tuple"->b≠x:=λ hit e c z=>by obtain⟨o',e',c',_⟩:=hit;rw[z,e']at e;cases e;rw[c']at c;injection c with c;exact absurd c (by decide)
  by_cases hlt:i<items.size
  ·show wpAny _ A.in1 (pyNext (.ref I)>>=_) _ _ s
   refine ae (wpAny_pyNext_list_item st hl (x:=items[i]) (by simp[hlt]) λ h' st' sb=>?_);obtain⟨k,b,hkk,eb,tb,gb⟩:=hv i items[i] (by simp[hlt]);rw[eb];have bI:b≠I:=by obtain⟨o,its,m,q1,q2,_⟩:=tb;exact tupI (h':=h') st q1 q2
   have S1:qr G prog w h' S ks:=hS.keep (λ o e=>(sb.2 S n1).trans e) λ c o e hc=>(sb.2 c (tupI (h':=h') st e hc)).trans e;have tb1:lj prog w h' k b:=lO tb λ o e=>(sb.2 b bI).trans e;refine ae (bK (CJ (s:={s with heap:=h'}) hu S1 tb1 gb (by lia) λ h2 ks2 c tk sb2 S2 p2=>?_));have keep2:∀ x o,x≠S->x≠I->s.heap.get? x=My o->h2.get? x=My o:=λ x o x1 x2 e=>(sb2.2 x x1).trans ((sb.2 x x2).trans e);refine af ⟨plainId_quiet dE _,?_⟩;have mem2:∀ k',k'∈ks2↔k'∈kk.take (i+1):=λ k'=>by
    rw[p2.mem_iff,List.take_add_one,hkk,aM,<-hm k'];by_cases hin:k∈ks
    ·rw[ai hin];simp only[eE,ax,aN,or_false];exact⟨.inl,λ z=>z.elim id λ z=>z▸hin⟩
    ·rw[aq hin];simp only[eE,ax,aN,or_false];exact⟨λ z=>z.symm,λ z=>z.symm⟩
   have len2:ks2.length<=i+1:=by
    rw[p2.length_eq];split
    ·lia
    ·rw[bX];lia
   obtain⟨ol,hol,hcl,m,hdl⟩:=id hl;refine ih (n-1) (by lia) (i+1) {s with heap:=h2,toks:=tk} ks2 (by lia) hlt ?_ ⟨ol,keep2 l ol n2.symm n3 hol,hcl,m,hdl⟩ S2 (λ j v hj=>?_) len2 mem2 λ h3 tk3 ks3 kp3 S3 m3=>?_
   ·obtain⟨oI,eI,cI,dI⟩:=st';exact⟨oI,(sb2.2 I n1.symm).trans eI,cI,dI⟩
   ·obtain⟨k',b',q1,q2,q3,g3⟩:=hv j v hj
    refine⟨k',b',q1,q2,lO q3 λ o e=>?_,g3⟩;have c1:b'≠I:=by obtain⟨o',its,m,z1,z2,_⟩:=q3;exact tupI (h':=h') st z1 z2
    have c2:b'≠S:=by rintro rfl;obtain⟨oS,es,ep,t,z1,_,z2,_⟩:=hS;obtain⟨o',its,m,y1,_,y3,_⟩:=q3;rw[z1]at y1;cases y1;rw[z2]at y3;cases y3
    exact keep2 b' o c2 c1 e
   ·exact fin h3 tk3 ks3 (λ x o x1 x2 e=>kp3 x o x1 x2 (keep2 x o x1 x2 e)) S3 m3
  ·have e:i=items.size:=by lia
   show wpAny _ A.in1 (pyNext (.ref I)>>=_) _ _ s;refine ae (wpAny_pyNext_list_end hh st hl (cS (fC e.symm)) λ h' eb=>?_);show wpAny _ A.in1 (ret Value.none) _ _ _;refine af (fin h' s.toks ks (λ x o _ x2 q=>eb x o x2 q) (hS.keep (λ o q=>eb S o n1 q) λ c o q hc=>eb c o (tupI (h':=h') st q hc) q) λ k=>?_);rw[hm k,e,<-hk,d9]
theorem CK {a:gH}{Q₁:gE}(h:Q₁ (.ref s.heap.objs.size) {s with heap:=s.heap.push {cls:=.type "set",dict:=Rl,data:=.set #[] 0 (.fresh 0 0 (!(w.params.followText "set-order")))}}) :
  codeAny (model prog w) A (.call (.builtin "set.__new__") ⟨[.type "set",a],[]⟩) (wants Q₁ E) s:=by
 refine codeAny_of_tree ?_;show wpAny _ A.in1 (checkBuiltinCall "set.__new__" ⟨[.type "set",a],[]⟩>>=λ _=>again (.builtin "set.__new__" ⟨[.type "set",a],[]⟩)) _ _ s;refine ae (wpAny_of_eq (F.newCall_set_1 a) ?_);refine af ⟨plainId_quiet F.plain_set_new _,codeAny_builtin F.entry_set_new ?_⟩;rw[fq F.plain_set_new _];unfold Builtin.«set.__new__» Builtin.Frozenset.newClass;have hsub:=sub_set_self;obtain⟨hp,g,d,tk,os⟩:=s;dsimp only
 wp_walk
 refine wpAny_askSetting (af ?_);dsimp only;simp only[newObj];refine ae (wpAny_alloc (af ?_));exact af h
theorem z3 {l:Addr}{items:Array gH}{kk:List (List Int)}{Q:gE}(hh:A.handled=Rl)(hu:A.units+40<cLine)(hl:s.heap.IsList l items)(hk:kk.length=items.size)(h40:items.size<=40)
  (hv:∀ (j:Nat) v,items[j]?=My v->∃ k b,kk[j]?=My k/\v=.ref b/\lj prog w s.heap k b/\G k b)
  (h:∀ h' tk ks,(∀ b o,b<s.heap.objs.size->s.heap.get? b=My o->h'.get? b=My o)->qr G prog w h' s.heap.objs.size ks->(∀ k,k∈ks↔k∈kk)->Q (.ref s.heap.objs.size) {s with heap:=h',toks:=tk}) :
  wpAny (model prog w) A (call (.type "set") [.ref l]) Q E s:=by
 obtain⟨c0,tl0,hmro⟩:=cf.mro;have hmade:=cf.made;have hsub:=cf.sub;refine f6 (codeAny_of_tree ?_);show wpAny _ _ (callAny (.type "set") _) _ _ _;refine af ⟨fK _ (by decide +kernel),codeAny_builtin F.entry_type_call ?_⟩;rw[Around.under_plain (weight_type_call_type "set" [.ref l] []) rfl];have hnt:=cf.notType;have hcc:=cf.canCreate;have hct:=F.typeCall_set_1 (.ref l);repeat (any_goals (first | assumption | wp_step))
 refine codeAny_mono (CK (a:=.ref l) (E:=E) (Q₁:=λ obj s₁=>obj=.ref s.heap.objs.size/\s₁={s with heap:=s.heap.push {cls:=.type "set",dict:=Rl,data:=.set #[] 0 (.fresh 0 0 (!(w.params.followText "set-order")))}}) ⟨rfl,rfl⟩) λ r s₁ hr=>?_;cases r with
 | error e=>exact hr
 | ok fl =>
  cases fl with
  | ret obj =>
   obtain⟨rfl,rfl⟩:=hr;generalize hN0:({cls:=.type "set",dict:=Rl,data:=.set #[] 0 (.fresh 0 0 (!(w.params.followText "set-order")))}:Obj)=N0;have hS:(s.heap.push N0).get? s.heap.objs.size=My N0:=aE _ (by rw[<-hN0];rfl);have hT:Shared.TypeIs {s with heap:=s.heap.push N0} (.ref s.heap.objs.size) "set":=⟨_,hS,by rw[<-hN0]⟩;have hli:=cf.init.lookup;have hbi:=cf.init.bind (.ref s.heap.objs.size);repeat (any_goals (first | assumption | wp_step))
   refine codeAny_mono (codeAny_call_builtin (R:=wants (λ r s₂=>r=.none/\∃ h' tk ks,s₂={s with heap:=h',toks:=tk}/\qr G prog w h' s.heap.objs.size ks/\(∀ k,k∈ks↔k∈kk)/\(∀ b o,b<s.heap.objs.size->s.heap.get? b=My o->h'.get? b=My o)) E)
    cf.init.plain F.entry_set_init (check_set_init_1 hT ?_)) λ r₂ s₂ hr₂=>?_
   ·obtain⟨ol,hol,hcl,nl,hdl⟩:=id hl
    obtain⟨ocls,odict,odata,oslots⟩:=ol;simp only at hcl hdl;subst hcl;subst hdl;have hol':(s.heap.push N0).get? l=My {cls:=.type "list",dict:=odict,data:=.seq items nl,slots:=oslots}:=ag _ hol;have hsls:=F.sub_list_set;have hslf:=F.sub_list_frozenset;have hne:(Value.type "list"==Value.type "dict")=Rn:=by decide
    have hl1:(s.heap.push N0).IsList l items:=⟨_,hol',rfl,nl,rfl⟩;have hS0:(s.heap.push N0).get? s.heap.objs.size=My {cls:=.type "set",dict:=Rl,data:=.set #[] 0 (.fresh 0 0 (!(w.params.followText "set-order")))}:=by rw[hS,hN0]
    unfold Builtin.«set.__init__» noKeywords Builtin.Frozenset.updateFrom;generalize hPI:pyIter=PI
    wp_walk
    subst hPI;refine eO hl1 ?_;refine ae (wpAny_runValue ?_);have hlS:l<s.heap.objs.size:=av hol;have szP:(s.heap.push N0).objs.size=s.heap.objs.size+1:=cE ..;have keep:∀ b o,s.heap.get? b=My o->((s.heap.push N0).push {cls:=.type "list_iterator",data:=.fields #[.ref l,.int 0 0]}).get? b=My o:=λ b o e=>ag _ (ag _ e);refine E7 (G:=G) (A:=A.in1.in1) (by simp[hh]) (dN (show A.units+3<=A.units+40 by lia) hu) hk h40 (by rw[szP];exact aP (d_ _)) (bR hlS) (by rw[szP];exact aP (dq hlS)) items.size 0 _ [] (by lia) (aQ _)
     ⟨_,aE _ rfl,rfl,rfl⟩ (hl1.push _) ⟨_,#[],0,.fresh 0 0 (!(w.params.followText "set-order")),ag _ hS0,⟨rfl,rfl,rfl⟩,rfl,?_,.nil,rfl,rfl,.inl ⟨rfl,aQ _⟩,fH⟩ (λ j v hj=>?_) (ar _) (by simp) λ h' tk ks kp S' m'=>?_
    ·exact⟨.inl rfl,rfl,λ a b x y _ e=>by simp[SetTable.fresh]at e,λ i j e=>by simp[SetTable.fresh]at e,rfl,aQ _,λ i j h e=>by simp[SetTable.fresh]at e⟩
    ·obtain⟨k,b,q1,q2,q3,g3⟩:=hv j v hj;exact⟨k,b,q1,q2,lO q3 (λ o e=>keep b o e),g3⟩
    ·show wpAny _ _ _ _ _ _;refine af ?_;show wpAny _ _ (ret Value.none) _ _ _;refine af ⟨rfl,h',tk,ks,rfl,S',m',λ b o hb e=>kp b o (aP hb) (by rw[szP];exact aP (dq hb)) (keep b o e)⟩
   ·cases r₂ with
    | error e=>exact hr₂
    | ok fl₂ =>
     cases fl₂ with
     | ret r =>
      obtain⟨rfl,h',tk,ks,rfl,S',m',kp⟩:=hr₂;repeat (any_goals (first | assumption | wp_step))
      exact h _ _ _ kp S' m'
     | _=>exact hr₂.elim
  | _=>exact hr.elim
end
end Tb
namespace Tb
open PySem PySem.W PyProof.Rows
def Tr {α:Type}(n:Nat)(c:Nat->Nat->Bool)(R:α->Prop):KasT α->Prop
 | .ret a=>R a
 | .ask i j k=>i<n/\j<n/\Tr n c R (k (c i j))
section
variable {n:Nat}{c:Nat->Nat->Bool}
theorem Tr.wp {α:Type}{cmp:Nat->Nat->(Bool->gJ->Prop)->gJ->Prop}{s:gJ}{R:α->Prop}{Q:α->gJ->Prop}(hc:∀ i j C,i<n->j<n->C (c i j) s->cmp i j C s)(hq:∀ a,R a->Q a s):∀ (t:KasT α),Tr n c R t->t.kasWp cmp Q s
 | .ret a,h=>hq a h
 | .ask i j k,⟨h1,h2,h3⟩=>hc i j _ h1 h2 (Tr.wp hc hq (k (c i j)) h3)
theorem Tr.bnd {α β:Type}{R:α->Prop}{R':β->Prop}{f:α->KasT β}(hf:∀ a,R a->Tr n c R' (f a)):∀ (t:KasT α),Tr n c R t->Tr n c R' (t.bind f)
 | .ret a,h=>hf a h
 | .ask i j k,⟨h1,h2,h3⟩=>⟨h1,h2,Tr.bnd hf (k (c i j)) h3⟩
end
section
variable {n:Nat}{O:KeyOrd}{X:Nat->O.α}
def Kp (X:Nat->O.α)(p:Array Nat)(i:Nat):O.α:=X (p.getD i 0)
def Pm (n:Nat)(p:Array Nat):Prop:=0<n/\List.Perm p.toList (Ro n)
theorem Pm.lt {p:Array Nat}(h:Pm n p)(i:Nat):p.getD i 0<n:=by
 rw[bF];cases e:p[i]? with
 | none=>exact h.1
 | some x =>rw[<-bh]at e;exact aD.mp (h.2.mem_iff.mp (aY e))
theorem Pm.size {p:Array Nat}(h:Pm n p):p.size=n:=by have:=h.2.length_eq;simpa using this
theorem Pm.perm {p p':Array Nat}(h:Pm n p)(q:p'.Perm p):Pm n p':=⟨h.1,(Array.perm_iff_toList_perm.mp q).trans h.2⟩
def Sor (X:Nat->O.α)(p:Array Nat)(k:Nat):Prop:=∀ i j,i<=j->j<k->O.kle (Kp X p i) (Kp X p j)
def Non (X:Nat->O.α)(p:Array Nat)(k:Nat):Prop:=∀ i j,i<=j->j<k->O.kle (Kp X p j) (Kp X p i)
theorem BG {p:Array Nat}{i j:Nat}(hj:j<=p.size)(k:Nat):Kp X (kas_rev p i j) k=if i<=k/\k<j then Kp X p (i+j-1-k) else Kp X p k:=by
 unfold Kp kas_rev;rw[bF,getElem?_mirror_all hj];split
 ·rw[bF]
 ·rw[bF]
theorem tG {p:Array Nat}{i j:Nat}(hj:j<=p.size)(h:∀ k,i<=k->k<j->Kp X p k=Kp X p (j-1))(k:Nat):Kp X (kas_rev p i j) k=Kp X p k:=by
 rw[BG hj];split
 ·rw[h _ (by lia (config:={})) (by lia (config:={})),h k (by lia (config:={})) (by lia (config:={}))]
 ·rfl
theorem E8 {p:Array Nat}{src d:Nat}(hs:src<p.size)(hd:d<=src)(k:Nat):Kp X (bubble p src d) k=if k=src-d then Kp X p src else if src-d<k/\k<=src then Kp X p (k-1) else Kp X p k:=by
 have g:∀ (q:Array Nat) (i:Nat),Kp X q i=X ((q[i]?).getD 0):=λ q i=>by unfold Kp;rw[bF]
 rw[g,g,g,g,getElem?_bubble hs d hd];split
 ·rfl
 ·split<;>rfl
abbrev cO (X:Nat->O.α):Nat->Nat->Bool:=λ i j=>O.blt (X i) (X j)
theorem E9 {p:Array Nat}(P:Pm n p):∀ (f a:Nat),1<=a->Sor X p a->Tr n (cO X) (λ m=>a<=m/\m<=a+f/\Sor X p m/\(m=a+f\/O.klt (Kp X p m) (Kp X p (m-1)))) (kas_asc p f a)
 | 0,a,h1,h2=>⟨ar _,ar _,h2,.inl rfl⟩
 | f+1,a,h1,h2=>by
  refine⟨P.lt _,P.lt _,?_⟩;show Tr n (cO X) _ (if O.blt (Kp X p a) (Kp X p (a-1))=Rm then .ret a else kas_asc p f (a+1));by_cases h:O.blt (Kp X p a) (Kp X p (a-1))=Rm
  ·rw[ai h];exact⟨ar _,by lia,h2,.inr h⟩
  ·rw[aq h]
   have hk:O.kle (Kp X p (a-1)) (Kp X p a):=eZ h;have h3:Sor X p (a+1):=λ i j hij hj=>by
    by_cases hja:j<a
    ·exact h2 i j hij hja
    ·have:j=a:=by lia
     subst this;by_cases hi:i=j
     ·subst hi;exact dh _
     ·exact ed (h2 i (j-1) (by lia) (by lia)) hk
   have:=E9 P f (a+1) (by lia) h3;refine(show ∀ (t:KasT Nat),Tr n (cO X) _ t->Tr n (cO X) _ t from ?_) _ this;intro t;induction t with
   | ret m=>intro ⟨x1,x2,x3,x4⟩;exact⟨by lia,by lia,x3,by rw[show a+(f+1)=a+1+f by lia];exact x4⟩
   | ask i j k ih=>intro ⟨y1,y2,y3⟩;exact⟨y1,y2,ih _ y3⟩
theorem pH {p:Array Nat}{m:Nat}(h:Non X p m)(h1:1<=m)(hk:O.kle (Kp X p m) (Kp X p (m-1))):Non X p (m+1):=λ i j hij hj=>by
 by_cases hjm:j<m
 ·exact h i j hij hjm
 ·have:j=m:=by lia
  subst this;by_cases hi:i=j
  ·subst hi;exact dh _
  ·exact ed hk (h i (j-1) (by lia) (by lia))
def Nk (n:Nat)(X:Nat->O.α)(lo hi:Nat)(r:Array Nat×Nat×Nat):Prop:=Pm n r.1/\Non X r.1 r.2.1/\r.2.2+1<=r.2.1/\lo<=r.2.1/\r.2.1<=hi/\∀ i,r.2.1-(r.2.2+1)<=i->i<r.2.1->Kp X r.1 i=Kp X r.1 (r.2.1-1)
theorem yF:∀ (f:Nat) (p:Array Nat) (m q lo:Nat),Pm n p->m+f<=n->1<=m->lo<=m->Non X p m->q+1<=m->(∀ i,m-(q+1)<=i->i<m->Kp X p i=Kp X p (m-1))->Tr n (cO X) (Nk n X lo (m+f)) (kas_desc f p m q)
 | 0,p,m,q,lo,P,hn,h1,hlo,h2,h3,h4=>⟨P,h2,h3,hlo,ar _,h4⟩
 | f+1,p,m,q,lo,P,hn,h1,hlo,h2,h3,h4=>by
  refine⟨P.lt _,P.lt _,?_⟩;have one:∀ (p':Array Nat) i,m+1-(0+1)<=i->i<m+1->Kp X p' i=Kp X p' (m+1-1):=λ p' i a b=>by rw[show i=m by lia];rfl
  show Tr n (cO X) _ (if O.blt (Kp X p m) (Kp X p (m-1))=Rm then _ else _);rw[show m+(f+1)=m+1+f by lia];by_cases h:O.blt (Kp X p m) (Kp X p (m-1))=Rm
  ·rw[ai h]
   by_cases hq:q>0
   ·rw[ai hq]
    have hm:m<=p.size:=by rw[P.size];lia
    have ke:=tG (X:=X) (p:=p) (i:=m-(q+1)) (j:=m) hm λ k a b=>h4 k a b;refine yF f _ (m+1) 0 lo (P.perm (mirror_perm _ _ _ _)) (by lia) (by lia) (by lia) (pH (λ i j a b=>?_) h1 ?_) (by lia) (one _)
    ·rw[ke,ke];exact h2 i j a b
    ·rw[ke,ke];exact du h
   ·rw[aq hq];exact yF f p (m+1) 0 lo P (by lia) (by lia) (by lia) (pH h2 h1 (du h)) (by lia) (one _)
  ·rw[aq h]
   refine⟨P.lt _,P.lt _,?_⟩;show Tr n (cO X) _ (if O.blt (Kp X p (m-1)) (Kp X p m)=Rm then _ else _);by_cases h':O.blt (Kp X p (m-1)) (Kp X p m)=Rm
   ·rw[ai h'];exact⟨P,h2,h3,hlo,(show m<=m+1+f by lia),h4⟩
   ·rw[aq h']
    have e:Kp X p m=Kp X p (m-1):=O.total _ _ (by simpa using h) (by simpa using h');refine yF f p (m+1) (q+1) lo P (by lia) (by lia) (by lia) (pH h2 h1 (by rw[e];exact dh _)) (by lia) λ i a b=>?_;by_cases hi:i=m
    ·rw[hi];rfl
    ·rw[show m+1-1=m by lia,e];exact h4 i (by lia) (by lia)
def Ln (n:Nat)(X:Nat->O.α)(r:Nat×Array Nat):Prop:=Pm n r.2/\Sor X r.2 r.1/\1<=r.1/\r.1<=n
theorem CL {p:Array Nat}{m:Nat}(P:Pm n p)(h:Non X p m)(h1:1<=m)(hm:m<=n):Tr n (cO X) (Ln n X) (kas_tail3 m n p):=by
 have P1:Pm n (kas_rev p 0 m):=P.perm (mirror_perm _ _ _ _);refine Tr.bnd (λ a ⟨a1,a2,a3,_⟩=>⟨P1,a3,by lia,by lia⟩) _ (E9 P1 (n-m) m h1 λ i j hij hj=>?_);have hz:m<=p.size:=by rw[P.size];exact hm
 rw[BG hz,BG hz,ai (by lia),ai (by lia)];exact h _ _ (by lia) (by lia)
theorem vB {p:Array Nat}{m:Nat}(P:Pm n p)(h:Non X p (m+1))(hm:m+1<=n):Tr n (cO X) (Ln n X) (kas_descPart m n p):=by
 refine Tr.bnd (λ r hr=>?_) _ (yF (n-(m+1)) p (m+1) 0 (m+1) P (by lia) (by lia) (ar _) h (by lia) λ i a b=>by rw[show i=m by lia];rfl);obtain⟨P',N',q1,l1,u1,e1⟩:=hr;by_cases hq:r.2.2>0
 ·rw[ai hq]
  have hz:r.2.1<=r.1.size:=by rw[P'.size];lia
  have ke:=tG (X:=X) (p:=r.1) (i:=r.2.1-(r.2.2+1)) (j:=r.2.1) hz λ k a b=>e1 k a b;refine CL (P'.perm (mirror_perm _ _ _ _)) (λ i j a b=>?_) (by lia) (by lia);rw[ke,ke];exact N' i j a b
 ·rw[aq hq];exact CL P' N' (by lia) (by lia)
theorem HW {p:Array Nat}(P:Pm n p):Tr n (cO X) (Ln n X) (kas_count n p):=by
 have hn:=P.1;refine Tr.bnd (λ m ⟨m1,m2,m3,m4⟩=>?_) _ (E9 P (n-1) 1 (ar _) λ i j hij hj=>by rw[show i=0 by lia,show j=0 by lia];exact dh _);by_cases he:m=n
 ·rw[ai (by simpa using he)];exact⟨P,m3,m1,by lia⟩
 ·rw[aq (by simpa using he)]
  have hlt:O.klt (Kp X p m) (Kp X p (m-1)):=m4.resolve_left (by lia);by_cases h1:m>1
  ·rw[ai h1]
   refine⟨P.lt _,P.lt _,?_⟩;show Tr n (cO X) _ (if O.blt (Kp X p 0) (Kp X p (m-1))=Rm then _ else _);by_cases h:O.blt (Kp X p 0) (Kp X p (m-1))=Rm
   ·rw[ai h];exact⟨P,m3,m1,by lia⟩
   ·rw[aq h]
    have hle:O.kle (Kp X p (m-1)) (Kp X p 0):=eZ h;have hz:m<=p.size:=by rw[P.size];lia
    have all:∀ k,0<=k->k<m->Kp X p k=Kp X p (m-1):=λ k _ hk=>KeyOrd.kle_antisymm (m3 k (m-1) (by lia) (by lia)) (ed hle (m3 0 k (by lia) hk));have ke:=tG (X:=X) (p:=p) (i:=0) (j:=m) hz all;refine vB (P.perm (mirror_perm _ _ _ _)) (pH (λ i j a b=>?_) m1 ?_) (by lia)
    ·rw[ke,ke,all i (by lia) (by lia),all j (by lia) b];exact dh _
    ·rw[ke,ke];exact du hlt
  ·rw[aq h1]
   have:m=1:=by lia
   subst this;exact vB P (pH (λ i j a b=>by rw[show i=0 by lia,show j=0 by lia];exact dh _) (ar _) (du hlt)) (by lia)
theorem yG {p:Array Nat}{k:Nat}(P:Pm n p)(S:Sor X p k):∀ (f l r:Nat),l<=r->r<=k->r<=l+f->(∀ i,i<l->O.kle (Kp X p i) (Kp X p k))->(∀ i,r<=i->i<k->O.klt (Kp X p k) (Kp X p i)) ->
  Tr n (cO X) (λ m=>m<=k/\(∀ i,i<m->O.kle (Kp X p i) (Kp X p k))/\∀ i,m<=i->i<k->O.klt (Kp X p k) (Kp X p i)) (kas_place p k f l r)
 | 0,l,r,h1,h2,h3,h4,h5=>by
  have:l=r:=by lia
  subst this;exact⟨h2,h4,h5⟩
 | f+1,l,r,h1,h2,h3,h4,h5=>by
  show Tr n (cO X) _ (if l≥r then .ret l else _);by_cases h:l≥r
  ·rw[ai h]
   have:l=r:=by lia
   subst this;exact⟨h2,h4,h5⟩
  ·rw[aq h]
   refine⟨P.lt _,P.lt _,?_⟩;show Tr n (cO X) _ (if O.blt (Kp X p k) (Kp X p ((l+r) / 2))=Rm then _ else _);by_cases hc:O.blt (Kp X p k) (Kp X p ((l+r) / 2))=Rm
   ·rw[ai hc];refine yG P S f l ((l+r) / 2) (by lia) (by lia) (by lia) h4 λ i a b=>?_;exact KeyOrd.klt_of_klt_of_kle hc (S _ i a b)
   ·rw[aq hc];refine yG P S f ((l+r) / 2+1) r (by lia) h2 (by lia) (λ i a=>?_) h5;exact ed (S i _ (by lia) (by lia)) (eZ hc)
theorem Kc:∀ (f:Nat) (p:Array Nat) (k:Nat),Pm n p->Sor X p k->k+f=n->Tr n (cO X) (λ p'=>Pm n p'/\Sor X p' n) (kas_bin f p k)
 | 0,p,k,P,S,h=>by
  have:k=n:=by lia
  subst this;exact⟨P,S⟩
 | f+1,p,k,P,S,h=>by
  refine Tr.bnd (λ l ⟨l1,l2,l3⟩=>?_) _ (yG P S k 0 k (aQ _) (ar _) (by lia) (λ i hi=>absurd hi (df _)) λ i a b=>by lia);refine Kc f _ (k+1) (P.perm (bubble_perm _ _ _)) (λ i j hij hj=>?_) (by lia);have hk:k<p.size:=by rw[P.size];lia
  rw[E8 hk (by lia),E8 hk (by lia),show k-(k-l)=l by lia];by_cases e1:i=l
  ·rw[ai e1]
   by_cases e2:j=l
   ·rw[ai e2];exact dh _
   ·rw[aq e2,ai (by lia)];exact du (l3 (j-1) (by lia) (by lia))
  ·rw[aq e1]
   by_cases e2:j=l
   ·rw[ai e2,aq (by lia)];exact l2 i (by lia)
   ·rw[aq e2]
    by_cases e3:l<i/\i<=k
    ·rw[ai e3,ai (by lia)];exact S _ _ (by lia) (by lia)
    ·rw[aq e3]
     by_cases e4:l<j/\j<=k
     ·rw[ai e4]
      by_cases e5:j-1<l
      ·lia
      ·exact ed (l2 i (by lia)) (du (l3 (j-1) (by lia) (by lia)))
     ·rw[aq e4];exact S i j hij (by lia)
theorem Lo (hn:0<n):Tr n (cO X) (λ p=>Pm n p/\Sor X p n) (kas_sort n):=by
 have P0:Pm n (List.toArray (Ro n)):=⟨hn,gA _⟩;refine Tr.bnd (λ r ⟨P,S,r1,r2⟩=>?_) _ (HW P0);by_cases h:r.1<n
 ·rw[ai h,show max r.1 1=r.1 by lia];exact Kc _ _ _ P S (by lia)
 ·rw[aq h]
  have:r.1=n:=by lia
  exact⟨P,this▸S⟩
end
open PySem.Spec
theorem CM {α:Type}(next:Nat->Nat):∀ (fuel k:Nat) (left:List α) (out:Array α),fuel=left.length->List.Perm (pickOrder.go next fuel k left out).toList (out.toList++left)
 | 0,k,left,out,h=>by have:left=[]:=dF.mp h.symm;subst this;unfold pickOrder.go;simp
 | fuel+1,k,left,out,h=>by
  unfold pickOrder.go;have hl:next k % left.length<left.length:=f9 _ (by lia)
  have e:left[next k % left.length]?=My left[next k % left.length]:=by simp[hl]
  rw[e];dsimp only;refine(CM next fuel (k+1) _ _ (by rw[List.length_eraseIdx_of_lt hl];lia)).trans ?_;rw[Array.toList_push,cw];refine List.Perm.append_left _ ?_;have e2:left=left.take (next k % left.length)++left[next k % left.length]::left.drop (next k % left.length+1):=by rw[<-cJ hl,List.take_append_drop]
  have e3:left.eraseIdx (next k % left.length)=left.take (next k % left.length)++left.drop (next k % left.length+1):=List.eraseIdx_eq_take_drop_succ _ _;rw[e3];refine List.Perm.trans ?_ (List.Perm.of_eq e2.symm);rw[List.singleton_append];exact List.perm_middle.symm
theorem DI {α:Type}(next:Nat->Nat)(xs:Array α):List.Perm (pickOrder next xs).toList xs.toList:=by
 unfold pickOrder;have:=CM next xs.size 0 xs.toList #[] (by simp)
 simpa using this
theorem vC {xs:Array Nat}(R:Ri xs){j r:Nat}(h:Bel xs j r):Rq xs j=r:=by
 obtain⟨a1,a2,a3⟩:=vq R j;obtain⟨b1,b2,b3⟩:=h;rcases eS (Rq xs j) r with q | q | q
 ·have hl:Rq xs j<xs.size:=by lia
  have e:xs[Rq xs j]?=My xs[Rq xs j]:=by simp[hl]
  have h1:=b2 _ _ q e;have h2:=a3 _ _ (ar _) e;lia
 ·exact q
 ·have hl:r<xs.size:=by lia
  have e:xs[r]?=My xs[r]:=by simp[hl]
  have h1:=a2 _ _ q e;have h2:=b3 _ _ (ar _) e;lia
theorem BH {xs:Array Nat}(R:Ri xs){i j:Nat}(e:xs[i]?=My j):Rq xs (j+1)=i+1:=by
 have hi:=(cq.mp e).1;refine vC R ⟨hi,λ k x hk ek=>?_,λ k x hk ek=>R i k j x hk e ek⟩;by_cases q:k=i
 ·subst q;rw[e]at ek;cases ek;lia
 ·have:=R k i x j (by lia) ek e;lia
theorem BJ {xs:Array Nat}(R:Ri xs):Rq xs 0=0:=vC R ⟨aQ _,λ k x hk=>absurd hk (df _),λ k x _ _=>aQ _⟩
theorem kA:Slot "set_iterator" "__next__" "set_iterator.__next__" :=
 .of (owner:="set_iterator") (n:="__next__") (by rw[typeLookup_type,builtinLookup_eq_fast];kernel_rfl) (by decide +kernel) (by decide +kernel) (by decide +kernel) (by first | exact .inl (by decide +kernel) | exact .inr (by decide +kernel)) (by rw[isSubtype_type];kernel_rfl)
theorem rG:Slot "set_iterator" "__iter__" "set_iterator.__iter__" :=
 .of (owner:="set_iterator") (n:="__iter__") (by rw[typeLookup_type,builtinLookup_eq_fast];kernel_rfl) (by decide +kernel) (by decide +kernel) (by decide +kernel) (by first | exact .inl (by decide +kernel) | exact .inr (by decide +kernel)) (by rw[isSubtype_type];kernel_rfl)
theorem qB:entryFor table "set_iterator.__next__"=My Builtin.«set_iterator.__next__»:=entryFor_of_tree (by kernel_rfl)
theorem xb:entryFor table "set_iterator.__iter__"=My Builtin.«dict_keyiterator.__iter__» :=
 entryFor_alias (id':="dict_keyiterator.__iter__") (by kernel_rfl) rfl (by decide +kernel)
  (by kernel_rfl)
theorem xc:entryFor table "set.__iter__"=My Builtin.«frozenset.__iter__» :=
 entryFor_alias (id':="frozenset.__iter__") (by kernel_rfl) rfl (by decide +kernel) (by kernel_rfl)
theorem z_:Manifest.owners.lookup (String.ofList ['r','o','t','a','r','e','t','i','_','t','e','s'].reverse)=My Manifest.sig_set_iterator:=by kernel_rfl
theorem rH (a:gH):argsOk "set_iterator.__next__" ⟨[a],[]⟩:=by
 unfold argsOk;rw[signature?_of (id:="set_iterator.__next__") (n:=['_','_','t','x','e','n','_','_']) (o:=['r','o','t','a','r','e','t','i','_','t','e','s']) (by kernel_rfl) z_]
 kernel_rfl
theorem yH (a:gH):argsOk "set_iterator.__iter__" ⟨[a],[]⟩:=by
 unfold argsOk;rw[signature?_of (id:="set_iterator.__iter__") (n:=['_','_','r','e','t','i','_','_']) (o:=['r','o','t','a','r','e','t','i','_','t','e','s']) (by kernel_rfl) z_]
 kernel_rfl
section
variable {prog:Program}{w:World}{A:Around}{E:gE}{s:gJ}{S I:Addr}{oS:Obj}{es:Array (Int×gH)}{ep:Nat}{t:SetTable}
def seen (w:World)(S:Addr)(ep:Nat)(es:Array (Int×gH)):Array (Int×gH):=if w.params.followText "set-order"=Rm then pickOrder (w.params.setOrder S ep) es else es
theorem qc (w:World)(S:Addr)(ep:Nat)(es:Array (Int×gH)):List.Perm (seen w S ep es).toList es.toList:=by
 unfold seen;split
 ·exact DI _ _
 ·exact gA _
def SIt (w:World)(S I:Addr)(n ep:Nat)(t:SetTable)(i:Nat)(h:Heap):Prop:=∃ (o:Obj) (slot:Nat),h.get? I=My o/\o.cls=.type "set_iterator"/\o.data=.fields #[rawInt slot,rawInt i,.ref S,rawInt n,rawInt ep]/\(w.params.followText "set-order"=Rn->Rq t.place slot=i)
theorem yI {Q:Bool->gJ->Prop}(h:Q (w.params.followText "set-order") s):wpAny (model prog w) A setsByText Q E s:=by unfold setsByText;exact ae (wpAny_askSetting (af h))
theorem Aa {Q:gF (gH×Nat)->gJ->Prop}{i slot:Nat}(hS:s.heap.get? S=My oS)(hd:oS.data=.set es ep t)(T:TOk t (es.toList.map (·.1)))(hp:t.plain=Rm)(hl:t.led=!(w.params.followText "set-order"))
  (hsl:w.params.followText "set-order"=Rn->Rq t.place slot=i) (h0:(seen w S ep es)[i]?=Rl->Q Rl s)
  (h1:∀ hv v nx,(seen w S ep es)[i]?=My (hv,v)->(w.params.followText "set-order"=Rn->Rq t.place nx=i+1)->Q (My (v,nx)) s):wpAny (model prog w) A (setNext S slot i ep) Q E s:=by
 have hfit:=fits_of T (n:=es.size) (by simp);unfold setNext;refine ae (cn hS hd hfit ?_);dsimp only;refine ae (yI ?_);by_cases hb:w.params.followText "set-order"=Rm
 ·have sd:seen w S ep es=pickOrder (w.params.setOrder S ep) es:=by unfold seen;rw[ai hb]
  rw[ai hb];simp only[bne_self_eq_false,aR,cp];unfold setWalk;refine ae (ae (cn hS hd hfit ?_));dsimp only;refine ae (yI ?_);rw[ai hb];refine ae (wpAny_askSetting (af ?_));refine af ?_;show Q (((pickOrder (w.params.setOrder S ep) es)[i]?).map λ e=>(e.2,slot)) s;rw[<-sd];cases e:(seen w S ep es)[i]? with
  | none=>exact h0 e
  | some v=>exact h1 v.1 v.2 slot e λ z=>by rw[hb]at z;cases z
 ·have hb':w.params.followText "set-order"=Rn:=by simpa using hb
  have sd:seen w S ep es=es:=by unfold seen;rw[aq hb]
  rw[aq hb];have hdr:∀ {α:Type} {a b:Sem α} {R:α->gJ->Prop},wpAny (model prog w) A b R E s->wpAny (model prog w) A (if (!t.plain&&decide (es.size>1))=Rm then a else b) R E s:=λ hb=>by rw[hp];simpa using hb
  refine hdr ?_;have hml:∀ {α:Type} {b:Unit->Sem α} {R:α->gJ->Prop},wpAny (model prog w) A (b ()) R E s->wpAny (model prog w) A ((if (!t.led&&!es.isEmpty)=Rm then unsupported "set:maker-not-led" else pure ())>>=b) R E s:=λ hb=>by rw[hl,hb'];simp only[gz,dS,gq,aR,cp];exact ae (af hb)
  refine hml ?_;rw[hsl hb'];refine af ?_;rw[sd]at h0 h1;have hpl:t.place.size=es.size:=by have:=T.sz;simpa using this
  by_cases hi:i<es.size
  ·have e1:es[i]?=My es[i]:=by simp[hi]
   have e2:t.place[i]?=My (t.place[i]'(by lia)):=by simp[show i<t.place.size by lia]
   rw[e1,e2];exact h1 es[i].1 es[i].2 _ e1 λ _=>BH T.ri e2
  ·have e1:es[i]?=Rl:=cS (by lia);rw[e1];exact h0 e1
theorem yJ {i n:Nat}(x:SIt w S I n ep t i s.heap):s.TypeIs (.ref I) "set_iterator":=let ⟨o,_,ho,hc,_⟩:=x;⟨o,ho,hc⟩
theorem pI {Q:Array (Int×gH)->gJ->Prop}(hS:s.heap.get? S=My oS)(hd:oS.data=.set es ep t)(T:TOk t (es.toList.map (·.1)))(h:Q es s):wpAny (model prog w) A (setEntries S) Q E s:=by unfold setEntries;exact ae (cn hS hd (fits_of T (by simp)) (af h))
theorem HX {i:Nat}{hv:Int}{v:gH}{Q:gF gH->gJ->Prop}(x:SIt w S I es.size ep t i s.heap)(hS:s.heap.get? S=My oS)(hd:oS.data=.set es ep t)(T:TOk t (es.toList.map (·.1)))(hp:t.plain=Rm)(hl:t.led=!(w.params.followText "set-order"))
  (hx:(seen w S ep es)[i]?=My (hv,v)) (hQ:∀ h',SIt w S I es.size ep t (i+1) h'->Heap.SameBut I s.heap h'->Q (My v) {s with heap:=h'}):wpAny (model prog w) A (pyNext (.ref I)) Q E s:=by
 have hT:=yJ x;obtain⟨o,slot,ho,hc,hdd,hsl⟩:=x;unfold pyNext;refine ae (eo (bJ (name:=Str.ofString "__next__") hT kA (bY kA hT qB ?_ (rH _))));unfold Builtin.«set_iterator.__next__»;refine ae (af ?_);refine ae (wpAny_fieldsOf ho hdd ?_);show wpAny _ _ (setEntries S>>=_) _ _ s;refine ae (pI hS hd T ?_);simp only[bne_self_eq_false,aR,cp];show wpAny _ _ (setNext S slot i ep>>=_) _ _ s;refine ae (Aa hS hd T hp hl hsl (λ z=>by rw[hx]at z;cases z) λ hv' v' nx e1 e2=>?_);rw[hx]at e1;cases e1;dsimp only;refine ae (eT ho hdd (by simp) ?_);have ho1:=c_ (Obj.mapFields (·.setIfInBounds 0 (rawInt nx))) ho (e_ (cX hdd _));have hd1:=cX hdd (·.setIfInBounds 0 (rawInt nx));refine ae (eT (s:={s with heap:=s.heap.update I (Obj.mapFields (·.setIfInBounds 0 (rawInt nx)))}) ho1 hd1 (by simp) ?_);have ho2:=c_ (Obj.mapFields (·.setIfInBounds 1 (rawInt ((i:Int)+1)))) ho1 (e_ (cX hd1 _));refine af ⟨_,rfl,af (hQ _ ⟨_,nx,ho2,?_,?_,e2⟩ ((cG ..).trans (cG ..)))⟩
 ·rw[fQ,fQ];exact hc
 ·rw[cX hd1];simp[rawInt]
theorem Lp {i:Nat}{Q:gF gH->gJ->Prop}(hh:A.handled=Rl)(x:SIt w S I es.size ep t i s.heap)(hS:s.heap.get? S=My oS)(hd:oS.data=.set es ep t)(T:TOk t (es.toList.map (·.1)))(hp:t.plain=Rm)(hl:t.led=!(w.params.followText "set-order"))
  (hx:(seen w S ep es)[i]?=Rl) (hQ:∀ h',Heap.ExtBut I s.heap h'->Q Rl {s with heap:=h'}):wpAny (model prog w) A (pyNext (.ref I)) Q E s:=by
 have hT:=yJ x;obtain⟨o,slot,ho,hc,hdd,hsl⟩:=x;unfold pyNext;refine ae (eo (bJ (name:=Str.ofString "__next__") hT kA (bY kA hT qB ?_ (rH _))));unfold Builtin.«set_iterator.__next__»;refine ae (af ?_);refine ae (wpAny_fieldsOf ho hdd ?_);show wpAny _ _ (setEntries S>>=_) _ _ s;refine ae (pI hS hd T ?_);simp only[bne_self_eq_false,aR,cp];show wpAny _ _ (setNext S slot i ep>>=_) _ _ s;refine ae (Aa hS hd T hp hl hsl (λ _=>?_) λ hv' v' nx e1 e2=>by rw[hx]at e1;cases e1);dsimp only;refine ae (eT ho hdd (by simp) ?_);show wpAny _ _ (newExc (.type "StopIteration") []>>=_) _ _ _;refine ae ?_;simp only[newExc,newTuple];refine ae (bB ?_ (by size_fits));refine ae (m:=firstArgMember _ _) (wpAny_of_eq (a:=Value.none) (by first | rfl | (simp only[firstArgMember];rfl)) ?_);refine bB ?_ (by size_fits);simp only[raiseNew];refine ae (wpAny_handled ?_);rw[show A.in1.handled=Rl from hh];refine ae (af (wpAny_throw ?_));refine ae (wpAny_isInstance (T:="StopIteration") (b:=Rm) ⟨_,aE _ rfl,rfl⟩ isSubtype_stop ?_);exact af (hQ _ (((cG ..).extBut.push _).push _))
theorem E_ (hh:A.handled=Rl)(hne:S≠I)(hd:oS.data=.set es ep t)(T:TOk t (es.toList.map (·.1)))(hp:t.plain=Rm)(hl:t.led=!(w.params.followText "set-order")) :
  Walks prog w A I [I,S] [I] es.size (λ i v=>∃ hv,(seen w S ep es)[i]?=My (hv,v)) (λ i h=>SIt w S I es.size ep t i h/\h.get? S=My oS) where
 sub:=λ b hb=>by simp at hb;simp[hb]
 frame:=λ i h h' st hk=>⟨let ⟨o,sl,ho,r⟩:=st.1;⟨o,sl,hk I (by simp) o ho,r⟩,hk S (by simp) oS st.2⟩
 item:=λ i s Q E hi st hQ=>by
  have hz:(seen w S ep es).size=es.size:=by have:=(qc w S ep es).length_eq;simpa using this
  have e:(seen w S ep es)[i]?=My (seen w S ep es)[i]:=by simp[hz,hi]
  exact HX st.1 st.2 hd T hp hl (hv:=(seen w S ep es)[i].1) (v:=(seen w S ep es)[i].2) e λ h' st' sb =>hQ _ h' s.toks ⟨_,e⟩ ⟨st',(sb.2 S hne).trans st.2⟩ λ b o hb q=>(sb.2 b (by simpa using hb)).trans q
 done:=λ s Q E st hQ=>by
  have hz:(seen w S ep es).size=es.size:=by have:=(qc w S ep es).length_eq;simpa using this
  exact Lp hh st.1 st.2 hd T hp hl (cS (by lia)) λ h' eb=>hQ h' s.toks λ b o hb q=>eb b o (by simpa using hb) q
 self:=λ i s Q E st hQ=>by have hT:=yJ st.1;refine wpAny_pyIter_slot hT rG (bY rG hT xb ?_ (yH _));unfold Builtin.«dict_keyiterator.__iter__»;refine ae (af ?_);exact af ⟨_,rfl,"set_iterator",_,hT,kA.lookup,hQ⟩
end
end Tb
namespace L2
open PySem PySem.Spec PyProof.Rows
def BK (env:Env):List (Str×NameKind)->List (Str×Addr)->List (Str×Addr)
 | [],cs=>cs
 | (n,k)::r,cs=>BK env r (if k==.free then (n,(env.cells.lookup n).getD 0)::cs else cs)
def xf (scope:Scope)(env:Env):List (Str×Addr):=BK env scope.names []
theorem vD {scope:Scope}{env:Env}(h:∀ x∈scope.names,x.2=.free->∃ c,env.cells.lookup x.1=My c):closureFor scope env=pure (xf scope env):=by
 unfold closureFor xf;generalize scope.names=l at h ⊢;generalize hcs:([]:List (Str×Addr))=cs;clear hcs;induction l generalizing cs with
 | nil=>simp only[BK,eU,pure_bind]
 | cons a r ih =>
  obtain⟨n,k⟩:=a;have ih':=λ cs=>ih (λ x hx=>h x (aw _ hx)) cs;simp only[dR,BK];by_cases e:k=.free
  ·subst e;obtain⟨c,hc⟩:=h (n,.free) ay rfl;have hc:env.cells.lookup n=My c:=hc;simp only[cellOf,hc,beq_self_eq_true,dU,dZ,pure_bind];exact ih' _
  ·have e':(k==NameKind.free)=Rn:=beq_eq_false_iff_ne.mpr e;simp only[e',aR,cp,pure_bind];exact ih' _
theorem Ab {env:Env}:∀ (l:List (Str×NameKind)) (cs:List (Str×Addr)),(∀ x∈l,x.2=.free->∃ c,env.cells.lookup x.1=My c)->(∀ x c,cs.lookup x=My c->env.cells.lookup x=My c) ->
  ∀ x c,(BK env l cs).lookup x=My c->env.cells.lookup x=My c
 | [],_,_,h2,x,c,e=>h2 x c e
 | (n,k)::r,cs,h1,h2,x,c,e=>by
  refine Ab r _ (λ y hy=>h1 y (aw _ hy)) (λ y d q=>?_) x c e;by_cases hk:k=.free
  ·subst hk
   obtain⟨d',hd⟩:=h1 (n,.free) ay rfl;have hd:env.cells.lookup n=My d':=hd;rw[ai (by decide),hd,dZ,a_]at q;cases hx:y==n with
   | true =>
    rw[hx]at q;have:y=n:=by simpa using hx
    subst this;cases q;exact hd
   | false=>rw[hx]at q;exact h2 y d q
  ·rw[aq (by simpa using hk)]at q;exact h2 y d q
theorem xS {env:Env}:∀ (l:List (Str×NameKind)) (cs:List (Str×Addr)) (x:Str),(∃ c,cs.lookup x=My c)->∃ c,(BK env l cs).lookup x=My c
 | [],_,_,h=>h
 | (n,k)::r,cs,x,h=>by
  refine xS r _ x ?_;split
  ·rw[a_]
   cases hx:x==n with
   | true=>exact⟨_,rfl⟩
   | false=>exact h
  ·exact h
theorem Ac {env:Env}:∀ (l:List (Str×NameKind)) (cs:List (Str×Addr)) (x:Str),(x,NameKind.free)∈l->∃ c,(BK env l cs).lookup x=My c
 | (n,k)::r,cs,x,h=>by
  rcases ax.mp h with e | h
  ·have e1:x=n:=cK Prod.fst e;have e2:NameKind.free=k:=cK Prod.snd e;refine xS r _ x ?_;rw[<-e2,<-e1,ai (by decide),a_];simp
  ·exact Ac r _ x h
theorem pJ {env:Env}:∀ {names:List (Str×NameKind)} {x:Str} {k:NameKind},
  (names.map λ(n,k)=>if (k==NameKind.free&&env.scope.kind==.function&&env.kindOf n==My .cell) then (n,NameKind.cell) else (n,k)).lookup x=My k ->
  ∃ k0,(x,k0)∈names/\names.lookup x=My k0/\(k=k0\/(k0=.free/\k=.cell))
 | [],_,_,h=>by simp at h
 | (n,k')::r,x,k,h=>by
  have h:List.lookup x ((if (k'==NameKind.free&&env.scope.kind==.function&&env.kindOf n==My .cell)=Rm then (n,NameKind.cell) else (n,k'))::_)=_:=h;cases hx:x==n with
  | true =>
   have e:x=n:=by simpa using hx
   subst e;by_cases hc:(k'==NameKind.free&&env.scope.kind==.function&&env.kindOf x==My .cell)=Rm
   ·rw[ai hc,a_,hx]at h;simp at hc;cases h;exact⟨k',ay,by rw[a_,hx],.inr ⟨hc.1.1,rfl⟩⟩
   ·rw[aq hc,a_,hx]at h;cases h;exact⟨k',ay,by rw[a_,hx],.inl rfl⟩
  | false =>
   have h':List.lookup x (r.map λ(n,k)=>if (k==NameKind.free&&env.scope.kind==.function&&env.kindOf n==My .cell) then (n,NameKind.cell) else (n,k))=My k:=by
    by_cases hc:(k'==NameKind.free&&env.scope.kind==.function&&env.kindOf n==My .cell)=Rm
    ·rw[ai hc,a_,hx]at h;exact h
    ·rw[aq hc,a_,hx]at h;exact h
   obtain⟨k0,m0,l0,o0⟩:=pJ h';exact⟨k0,aw _ m0,by rw[a_,hx];exact l0,o0⟩
theorem nh {env:Env}:∀ {names:List (Str×NameKind)} {x:Str},names.lookup x=My .free ->
  (names.map λ(n,k)=>if (k==NameKind.free&&env.scope.kind==.function&&env.kindOf n==My .cell) then (n,NameKind.cell) else (n,k)).lookup x=My .free \/
  (names.map λ(n,k)=>if (k==NameKind.free&&env.scope.kind==.function&&env.kindOf n==My .cell) then (n,NameKind.cell) else (n,k)).lookup x=My .cell
 | [],_,h=>by simp at h
 | (n,k')::r,x,h=>by
  show List.lookup x ((if (k'==NameKind.free&&env.scope.kind==.function&&env.kindOf n==My .cell)=Rm then (n,NameKind.cell) else (n,k'))::_)=_\/List.lookup x ((if (k'==NameKind.free&&env.scope.kind==.function&&env.kindOf n==My .cell)=Rm then (n,NameKind.cell) else (n,k'))::_)=_;cases hx:x==n with
  | true =>
   rw[a_,hx]at h;cases h;by_cases hc:(NameKind.free==NameKind.free&&env.scope.kind==.function&&env.kindOf n==My .cell)=Rm
   ·rw[ai hc,a_,hx];exact .inr rfl
   ·rw[aq hc,a_,hx];exact .inl rfl
  | false =>
   rw[a_,hx]at h;by_cases hc:(k'==NameKind.free&&env.scope.kind==.function&&env.kindOf n==My .cell)=Rm
   ·rw[ai hc,a_,hx];exact nh h
   ·rw[aq hc,a_,hx];exact nh h
structure ly (X:Cx)(scope:Scope)(own fr:List Str)(ix:List Nat):Prop where
 kind:scope.kind=.function
 loc:∀ x∈scope.names,x.2=.local->scope.names.lookup x.1=My .local
 Fb:∀ x∈scope.names,x.2≠.cell
 free:∀ x∈scope.names,x.2=.free->X.env.kindOf x.1=My .cell\/X.env.kindOf x.1=My .free
 Q8:∀ x∈own,scope.names.lookup x=My .local
 fr':∀ x∈fr,scope.names.lookup x=My .free
 ix':ix.map (λ i=>X.N[i]?)=fr.map My
 nd:(own++fr).Nodup
def Cx.comp (X:Cx)(N:List Str)(scope:Scope)(C:Addr)(s:gJ)(H:Hp)(fp:List Addr):Cx :=
 {X with N:=N,s₀:=s,H₀:=H,env:=compEnvC scope (xf scope X.env) C X.env,outer:=X.stack,stack:=X.stack,ex:=fp,fn:=λ _=>Rn,pn:=[],xe:=λ _ _=>False}
def jQ (own:List Str)(ix:List Nat)(σ:St):St:=own.map (λ _=>Rl)++ix.map λ i=>(σ[i]?).getD Rl
def PF (X:Cx)(ifs:List Expr)(t:TT):Prop :=
 ∀ (pins:gL) (s:gJ) (σ:St) (H:Hp) (Q:Bool->Hp->Prop),Inv X pins σ H s->t σ H Q ->
  wpAny (model X.prog X.w) X.A (forIn ifs Rm λ c r=>if r=Rm then do let ok<-isTrue c X.env (eval c X.env);pure (ForInStep.yield ok) else pure (ForInStep.yield r)) (TP X pins σ Q) X.xe s
def Fc:TT:=λ _ H Q=>Q Rm H
theorem BL {X:Cx}:PF X [] Fc:=λ _ _ _ H _ I h=>wpAny_tests_nil ⟨H,I,h⟩
theorem Lq {X:Cx}{c:Expr}{t:TT}(h:PT X c t):PF X [c] t:=λ pins s σ H Q I q=>wpAny_tests_one (h pins s σ H Q I q)
theorem yK {prog:Program}{w:World}{A:Around}{R:Result->gJ->Prop}{s:gJ}{elt target iter:Expr}{ifs:List Expr}{scope:Scope}{pos:Pos}{it acc:gH}{env:Env}(I:Nat->gJ->Prop)
  (turn:∀ n s,I n s->wpAny (model prog w) A (pyNext it) (λ r s₁=>match r with
   | none=>R (.ok .next) s₁
   | some v=>wpAny (model prog w) A (letOwnedTupleGo target it v) (λ _ s₁'=>wpAny (model prog w) A (assign target env v) (λ _ s₂ =>
     wpAny (model prog w) A (forIn ifs Rm λ c r=>if r=Rm then do let ok<-isTrue c env (eval c env);pure (ForInStep.yield ok) else pure (ForInStep.yield r)) (λ ok s₃ =>
      if ok=Rm then wpAny (model prog w) A (eval elt env) (λ x s₄ =>wpAny (model prog w) A (call (.builtin "list.append") [acc,x]) (λ _ s₅=>∃ m,m<n/\I m s₅) (λ _ _=>False) s₄) (λ _ _=>False) s₃
      else ∃ m,m<n/\I m s₃) (λ _ _=>False) s₂) (λ _ _=>False) s₁') (λ _ _=>False) s₁) (λ _ _=>False) s)
  (n:Nat) (h:I n s) :
  codeAny (model prog w) A (.compLoop (.ListComp elt [⟨target,iter,ifs,0⟩] scope pos) 0 it acc env) R s:=by
 refine codeAny_loop rfl I (λ n s hI=>?_) n h;show wpAny _ A ((compTurn (.ListComp elt [⟨target,iter,ifs,0⟩] scope pos) 0 it acc env).onRaise (λ x=>do noteFrame x env;theTreesLotGoes x)) _ _ s;refine wpAny_noted ?_;rw[compTurn_list];have nox:∀ {α:Type} {t:Sem α} {Q Q':α->gJ->Prop} {E:gE} {s:gJ},wpAny (model prog w) A t Q (λ _ _=>False) s->(∀ a s,Q a s->Q' a s)->wpAny (model prog w) A t Q' E s:=λ h hq=>cW h hq λ _ _ z=>z.elim;refine ae (wpAny_standAt (ae (nox (turn n s hI) λ r s₁ h₁=>?_)));cases r with
 | none=>exact af h₁
 | some v =>
  refine ae (nox h₁ λ _ s₁' h₁'=>ae (nox h₁' λ _ s₂ h₂=>ae (nox h₂ λ ok s₃ h₃=>?_)));cases ok with
  | false=>exact af ⟨rfl,h₃⟩
  | true=>exact ae (ae (nox h₃ λ x s₄ h₄=>ae (nox h₄ λ _ s₅ h₅=>af (af ⟨rfl,h₅⟩))))
section
variable {X:Cx}{pins:gL}{σ:St}{H:Hp}{s:gJ}{own fr:List Str}{ix:List Nat}{scope:Scope}
theorem ly.cells (S:ly X scope own fr ix)(ok:X.Ok):∀ x∈scope.names,x.2=.free->∃ c,X.env.cells.lookup x.1=My c:=λ x hx e=>ok.has x.1 (S.free x hx e)
theorem ly.sub (S:ly X scope own fr ix)(ok:X.Ok):∀ x c,(xf scope X.env).lookup x=My c->X.env.cells.lookup x=My c :=
 Ab scope.names [] (S.cells ok) (λ x c e=>by simp at e)
theorem ly.Nl (S:ly X scope own fr ix){x:Str}(h:(relabel scope X.env).names.lookup x=My .cell\/(relabel scope X.env).names.lookup x=My .free):∃ c,(xf scope X.env).lookup x=My c:=by
 have go:∀ k,(k=.cell\/k=.free)->(relabel scope X.env).names.lookup x=My k->∃ c,(xf scope X.env).lookup x=My c:=λ k hk e=>by
  obtain⟨k0,m0,l0,o0⟩:=pJ e;have:k0=.free:=by
   rcases o0 with o0 | o0
   ·rcases hk with z | z
    ·exact absurd (o0▸z) (S.Fb (x,k0) m0)
    ·exact o0▸z
   ·exact o0.1
  subst this;exact Ac scope.names [] x m0
 rcases h with h | h
 ·exact go _ (.inl rfl) h
 ·exact go _ (.inr rfl) h
theorem Inv.enter (I:Inv X pins σ H s)(S:ly X scope own fr ix){fp:List Addr}(hf:∀ b∈fp,ux X pins H b)(hlt:∀ b∈fp,b<s.heap.objs.size){C:Addr}{h':Heap}{tk:Nat}{m:gD}(hC:s.heap.objs.size<=C)(hns:h'.Ns C m)
  (k:∀ b o,s.heap.get? b=My o->h'.get? b=My o):Inv (X.comp (own++fr) scope C s H fp) [] (jQ own ix σ) H {s with heap:=h',toks:=tk}:=by
 have subS:∀ b,b∈frs X.stack->b∈X.env.locals::X.fs:=I.u6;have cl:=S.sub I.ok;have cellAt:∀ x c,(xf scope X.env).lookup x=My c->∃ v,h'.IsCell c v:=λ x c e=>by obtain⟨v,o,ho,hd⟩:=I.cell x c (cl x c e);exact⟨v,o,k c o ho,hd⟩
 refine⟨⟨I.ok.mod,S.kind,I.ok.glob,I.ok.blt,hC,λ x y c h1 h2=>I.ok.inj x y c (cl x c h1) (cl y c h2),λ x hx=>S.Nl hx,λ x c h=>absurd h (by simp[Cx.comp]),I.ok.hd,I.ok.frames,.inl rfl,λ b hb=>⟨?_,λ x c e=>(hf b hb).2.2.2.2.1 x c (cl x c e)⟩,I.bs,bA I.ok.bsz I.sz,λ b o e hb=>?_,λ b hb z=>?_,I.stack,I.rh⟩,
  rfl,I.bare,Un.kept k,⟨m,hns,λ i x v e1 e2 e3=>?_⟩,cellAt,I.hok.fresh hC,λ x c e=>I.lW x c (cl x c e),λ p hp=>absurd hp (by simp[Cx.comp]),I.hok.kept k,?_⟩
 ·exact aP (aH (hlt b hb) hC)
 ·rcases (hf b hb).2.2.2.1 with z | z
  ·exact I.ok.Bd b o e z
  ·exact absurd (aH (av e) (bA I.ok.bsz z)) (aW _)
 ·rcases ax.mp (subS b z) with q | q
  ·exact(hf b hb).2.1 q
  ·exact(hf b hb).2.2.1 q
 ·have e1:(own++fr)[i]?=My x:=e1
  have hi:own.length<=i:=by
   refine fc λ hlt'=>?_;unfold jQ at e2;rw[bL (by simpa using hlt'),aJ]at e2;cases q:own[i]? with
   | none=>rw[q]at e2;cases e2
   | some a=>rw[q]at e2;cases e2
  rw[bH hi]at e1;unfold jQ at e2;rw[bH (by simpa using hi),aJ,ah]at e2;cases q:ix[i-own.length]? with
  | none=>rw[q]at e2;cases e2
  | some i' =>
   rw[q]at e2;have e2:(σ[i']?).getD Rl=My v:=ak e2;have e3':σ[i']?=My (My v):=by
    cases r:σ[i']? with
    | none=>rw[r]at e2;cases e2
    | some w=>rw[r]at e2;exact cK My e2
   have eN:X.N[i']?=My x:=by have:=cK (λ l=>l[i-own.length]?) S.ix';simp only[aJ,q,e1,fv]at this;exact ak this
   have hfr:=S.fr' x (aY e1);have hk:=S.free (x,.free) (cN hfr) rfl;obtain⟨m0,_,hl0⟩:=I.loc;obtain⟨u,ru,lk⟩:=hl0 i' x v eN e3' (.inr hk);refine⟨u,ru,.inr ⟨(nh (env:=X.env) hfr).symm,?_⟩⟩;rcases lk with⟨hk',_⟩ | ⟨_,c,hc,hcell⟩
   ·rcases hk with hk | hk<;>(rw[hk']at hk;cases hk)
   ·obtain⟨c',hc'⟩:=S.Nl (x:=x) (nh (env:=X.env) hfr).symm;have:=cl x c' hc';rw[hc]at this;cases this;obtain⟨o,ho,hd⟩:=hcell;exact⟨c,hc',o,k c o ho,hd⟩
 ·show(jQ own ix σ).length=(own++fr).length;have:=cK List.length S.ix';simp only[ah]at this;simp[jQ,this]
theorem Inv.Ad {D:Addr}{o:HO}(I:Inv X pins σ H s)(hn:H D=Rl)(hs:X.s₀.heap.objs.size<=D)(hL:D≠X.env.locals)(hc:∀ x c,X.env.cells.lookup x=My c->c≠D)(hp:∀ p∈X.pn++pins,p.1≠D)
  (new:jm X.prog X.w (upd H D o) s.heap D o):Inv X pins σ (upd H D o) s:=by
 have ne:∀ b u,H b=My u->b≠D:=λ b u e z=>by rw[z,hn]at e;cases e
 refine⟨I.ok,I.os,I.bare,⟨I.base.keep,I.base.slot,λ b ob e n hx=>?_,I.base.there,λ b xs e=>?_,λ b ob u e=>?_,λ b ps e=>?_⟩,I.loc,I.cell,?_,λ x c e=>?_,λ p hp'=>?_,λ b u e=>?_,I.len⟩
 ·have:b≠D:=aP (aH (av e) hs);rw[g9 this];exact I.base.free b ob e n hx
 ·have q:=I.base.o_ b xs e;rw[g9 (ne _ _ q)];exact q
 ·have q:=I.base.pf b ob u e;rw[g9 (ne _ _ q)];exact q
 ·obtain⟨more,q⟩:=I.base.sU b ps e;exact⟨more,by rw[g9 (ne _ _ q)];exact q⟩
 ·rw[g9 hL.symm];exact I.free
 ·rw[g9 (hc x c e)];exact I.lW x c e
 ·obtain⟨a1,a2,a3⟩:=I.pin p hp';exact⟨a1,by rw[g9 (hp p hp')];exact a2,a3⟩
 ·by_cases hb:b=D
  ·subst hb;rw[gW]at e;cases e;exact new
  ·rw[g9 hb]at e;exact(I.hok b u e).u4 (λ c v _ q=>q) (λ c q=>by rw[g9 (ne _ _ q)];exact q) λ c xs q=>by rw[g9 (ne _ _ q)];exact q
end
def BM (n:Nat)(g:TG):Prop:=∀ x σ H (Q:St->Hp->Prop),g x σ H Q->g x σ H λ σ2 H2=>(∀ j,n<=j->σ2[j]?=σ[j]?)/\σ2.length=σ.length/\Q σ2 H2
def CN (n:Nat)(g:TGs):Prop:=∀ xs σ H (Q:St->Hp->Prop),g xs σ H Q->g xs σ H λ σ2 H2=>(∀ j,n<=j->σ2[j]?=σ[j]?)/\σ2.length=σ.length/\Q σ2 H2
theorem jI {n i:Nat}(h:i<n:=by decide):BM n (iM i):=λ x σ H Q q=>⟨λ j hj=>cb (by lia),by simp,q⟩
theorem qd {n:Nat}:CN n EA:=λ xs σ H Q ⟨e,q⟩=>⟨e,λ _ _=>rfl,rfl,q⟩
theorem kc {n i:Nat}{u:TGs}(h:i<n)(h2:CN n u):CN n (t_ (iM i) u):=λ xs σ H Q ⟨v,r,e,q⟩=>by refine⟨v,r,e,?_⟩;have q2:=h2 r (σ.set i (My v)) H Q q;have q3:=h2 r (σ.set i (My v)) H _ q2;show u r (σ.set i (My v)) H _;refine Eq.mp ?_ q2;congr 1;funext σ2 H2;simp only[List.length_set];refine propext ⟨λ⟨a,b,c⟩=>⟨λ j hj=>(a j hj).trans (cb (by lia)),b,c⟩,λ⟨a,b,c⟩=>⟨λ j hj=>(a j hj).trans (cb (by lia)).symm,b,c⟩⟩
theorem rJ {n k:Nat}{K:gG}{t:TGs}(h:CN n t):BM n (EB K k t):=λ x σ H Q ⟨a,xs,e,h1,h2,q⟩=>⟨a,xs,e,h1,h2,h xs σ H Q q⟩
def tLC (own:List Str)(ix:List Nat)(wi:TI)(g:TG)(tc:TT)(te:TE):TE:=λ σ H Q=>wi σ H λ J H1=>∃ W:Nat->Nat->List V->Hp->Prop,(∃ m,W 0 m [] H1)/\∀ i m ys H,W i m ys H ->
 (J.stop i H/\∀ p,H p=Rl->Q (.ref p) (upd H p (.lst ys))) \/
 (J.go i H/\ys.length<sizeLine/\∀ x H',J.yld i H x H'->g x (jQ own ix σ) H' λ σ2 H2=>tc σ2 H2 λ b H3=>if b=Rm then te σ2 H3 λ y H4=>∃ m',m'<m/\W (i+1) m' (ys++[y]) H4 else ∃ m',m'<m/\W (i+1) m' ys H3)
section
variable {X:Cx}{pins:gL}{σ:St}{H:Hp}{s:gJ}{own fr:List Str}{ix:List Nat}{scope:Scope}{tg iter elt:Expr}{ifs:List Expr}{pos:Pos}{g:TG}{tc:TT}{te:TE}
theorem Ae (I:Inv X pins σ H s)(hc:X.calm=Rm)(S:ly X scope own fr ix){J:It}{fp:List Addr}{it:Addr}{tn:Nat->Heap->Prop}(T:Turn X.prog X.w X.K tg J fp it tn)(st:tn 0 s.heap)(hf:∀ b∈fp,ux X pins H b)
  (hg:∀ C,PG (X.comp (own++fr) scope C s H fp) tg g) (hgo:BM own.length g) (ht:∀ C,PF (X.comp (own++fr) scope C s H fp) ifs tc) (he:∀ C,PE (X.comp (own++fr) scope C s H fp) elt te)
  {Qe:VK} {W:Nat->Nat->List V->Hp->Prop} {m0:Nat} (w0:W 0 m0 [] H) (turn:∀ i m ys H,W i m ys H ->
   (J.stop i H/\∀ p,H p=Rl->Qe (.ref p) (upd H p (.lst ys))) \/
   (J.go i H/\ys.length<sizeLine/\∀ x H',J.yld i H x H'->g x (jQ own ix σ) H' λ σ2 H2=>tc σ2 H2 λ b H3=>if b=Rm then te σ2 H3 λ y H4=>∃ m',m'<m/\W (i+1) m' (ys++[y]) H4 else ∃ m',m'<m/\W (i+1) m' ys H3))
  {E:gE} {RR:gH->Addr->Result->gJ->Prop}
  (fin:∀ D C s' H',Inv X pins σ H' s'->Qe (.ref D) H'->s.heap.objs.size<=C->H' C=Rl->(∃ m,s'.heap.Ns C m)->RR (.ref D) C (.ok .next) s') :
  wpAny (model X.prog X.w) X.A (newList []) (λ acc s₃=>wpAny (model X.prog X.w) X.A (newFunctionEnv scope X.env.globals (xf scope X.env) [] X.env.qual Rl .none (My X.env)) (λ cenv s₄ =>codeAny (model X.prog X.w) X.A (.compStart (.ListComp elt [⟨tg,iter,ifs,0⟩] scope pos) 0 (.ref it) acc {cenv with scope:=relabel scope X.env}) (RR acc cenv.locals) s₄) E s₃) E s:=by
 refine bB (wpAny_newFunctionEnv S.Fb (by intro y hy;simp at hy) (λ h₁ hns₁ hsb₁=>?_) S.kind);dsimp only at hns₁ hsb₁ ⊢;generalize hH2:s.heap.push {cls:=.type "list",dict:=Rl,data:=.seq ([]:List gH).toArray}=H2 at hns₁ hsb₁ ⊢;have hC:H2.objs.size=s.heap.objs.size+1:=by rw[<-hH2,cE]
 have hDC:s.heap.objs.size≠H2.objs.size:=by rw[hC];exact aP (d_ _)
 have hCle:s.heap.objs.size<=H2.objs.size:=by rw[hC];exact gy _
 have below:∀ b,b<s.heap.objs.size->b≠H2.objs.size/\b≠s.heap.objs.size:=λ b hb=>⟨by rw[hC];exact aP (dq hb),aP hb⟩;have old:∀ b o,s.heap.get? b=My o->h₁.get? b=My o:=λ b o e=>hsb₁.extBut b o (below b (av e)).1 (ag _ (hH2▸ag _ e));have hacc:h₁.PlainList s.heap.objs.size #[]:=⟨_,hsb₁.extBut _ _ hDC (ag _ (hH2▸aE _ rfl))⟩;have hlt:∀ b∈fp,b<s.heap.objs.size:=λ b hb=>by obtain⟨o,e,_⟩:=T.obj 0 s.heap st b hb;exact av e
 generalize hDD:s.heap.objs.size=D,hCC:H2.objs.size=C at *;have hDs:s.heap.objs.size<=D:=fC hDD;have I0:Inv (X.comp (own++fr) scope C s H fp) [] (jQ own ix σ) H {s with heap:=h₁,toks:=s.toks+([]:List (Str×gH)).length}:=I.enter S hf (by rw[hDD];exact hlt) (by rw[hDD];exact hCle) hns₁ old;have st0:tn 0 h₁:=T.keep 0 _ _ st λ b _ o e=>old b o e;have nfs:D∉frs X.stack:=λ z=>by obtain⟨_,o,ho,_⟩:=I.stack.mem z;exact absurd (av ho) (by rw[hDD];exact aW _)
 have ncell:∀ x c,(xf scope X.env).lookup x=My c->c≠D:=λ x c e z=>by obtain⟨v,q⟩:=I.cell x c (S.sub I.ok x c e);exact absurd q.lt (by rw[z,hDD];exact aW _)
 have nfp:D∉fp:=λ z=>aW _ (hlt D z);have fpS:∀ b∈fp,b∉frs X.stack:=λ b hb z=>by
  rcases ax.mp (I.u6 b z) with q | q
  ·exact(hf b hb).2.1 q
  ·exact(hf b hb).2.2.1 q
 have fpO:∀ (pl:gL) (H':Hp),(∀ p∈pl,p.1=D)->(∀ b∈fp,H' b=Rl)->∀ b∈fp,ux (X.comp (own++fr) scope C s H fp) pl H' b:=λ pl H' hpl hn b hb =>
  ⟨hn b hb,(below b (hlt b hb)).1,fpS b hb,.inl hb,λ x c e=>(hf b hb).2.2.2.2.1 x c (S.sub I.ok x c e),λ p hp z=>by
   have hp:p∈pl:=by simpa [Cx.comp] using hp
   rw[hpl p hp]at z;exact nfp (z▸hb)⟩
 have loop:∀ s₃:gJ,s₃={s with heap:=h₁,toks:=s.toks+([]:List (Str×gH)).length} ->
   codeAny (model X.prog X.w) X.A (.compLoop (.ListComp elt [⟨tg,iter,ifs,0⟩] scope pos) 0 (.ref it) (.ref D) (compEnvC scope (xf scope X.env) C X.env)) (RR (.ref D) C) s₃:=by
  rintro s₃ rfl;refine yK (λ n s'=>∃ i ys its H',Inv (X.comp (own++fr) scope C s H fp) [] (jQ own ix σ) H' s'/\s'.heap.PlainList D its/\Vals ys its.toList/\H' D=Rl/\tn i s'.heap/\(∀ b∈fp,H' b=Rl)/\ys.length<=sizeLine/\W i n ys H') ?_ m0
   ⟨0,[],#[],H,I0,hacc,.nil,I.hok.fresh hDs,st0,λ b hb=>(hf b hb).1,aQ _,w0⟩
  rintro n s' ⟨i,ys,its,H',I',acc',rv,hD',st',fr',hz,w'⟩;obtain⟨na,ha⟩:=id acc';have I1:Inv (X.comp (own++fr) scope C s H fp) [(D,{cls:=.type "list",data:=.seq its na})] (jQ own ix σ) H' s':=I'.uJ λ p hp=>by
   have e:p=(D,({cls:=.type "list",data:=.seq its na}:Obj)):=by simpa using hp
   subst e;exact⟨ha,hD',hDC,nfs,λ v z=>by cases z⟩
  have hpl:∀ p∈[(D,({cls:=.type "list",data:=.seq its na}:Obj))],p.1=D:=λ p hp=>by
   have e:p=(D,({cls:=.type "list",data:=.seq its na}:Obj)):=by simpa using hp
   rw[e]
  rcases turn i n ys H' w' with⟨stop,qn⟩ | ⟨go,hys,step⟩
  ·refine thn (T.done (X.comp (own++fr) scope C s H fp) rfl rfl rfl hc i _ s' _ H' _ I1 (fpO _ H' hpl fr') st' stop) λ r s1 ⟨hr,I2⟩=>?_
   subst hr;have hD1:=(I2.pin (D,_) (aT _ (aV.mpr rfl))).1;obtain⟨m1,hm1,_⟩:=I2.loc;have J1:Inv X pins σ H' s1:=I.M5 I2.os I2.base I2.hok I2.bare λ b hb=>⟨(hf b hb).2.2.2.1,(hf b hb).2.1,(hf b hb).2.2.2.2.1,(hf b hb).2.2.2.2.2⟩;have hXD:X.s₀.heap.objs.size<=D:=by rw[<-hDD];exact I.sz
   have J2:Inv X pins σ (upd H' D (.lst ys)) s1:=J1.Ad hD' hXD (bR (by rw[<-hDD];exact I.lt)) (λ x c e z=>by
     obtain⟨v,q⟩:=I.cell x c e;exact absurd q.lt (by rw[z,hDD];exact aW _)) (λ p hp z=>by
     have:=av (I.pin p hp).1;rw[z,hDD]at this;exact aW _ this) ⟨hz,its.toList,na,rv,by simpa using hD1⟩
   exact fin D C s1 _ J2 (qn D hD') hCle (by rw[g9 (bj hDC)];exact I2.free) ⟨m1,hm1⟩
  ·refine thn (T.item (X.comp (own++fr) scope C s H fp) rfl rfl rfl hc i _ s' _ H' _ I1 (fpO _ H' hpl fr') st' go) λ r s1 ⟨u,hr,h1⟩=>?_
   subst hr;refine thn h1 λ _ s2 ⟨x,H2',I2,r2,y2,st2,fr2⟩=>?_;have I2':=I2.pinned (fpO _ H2' hpl fr2) (T.obj _ _ st2);refine thn (hg C _ s2 _ H2' x u _ I2' r2 (hgo _ _ _ _ (step x H2' y2))) λ _ s3 ⟨σ3,H3,I3,own3,len3,q3⟩=>?_;refine thn (ht C _ s3 σ3 H3 _ I3 q3) λ ok s4 ⟨H4,I4,q4⟩=>?_;have weak:∀ {pl H5 s5},Inv (X.comp (own++fr) scope C s H fp) pl σ3 H5 s5->Inv (X.comp (own++fr) scope C s H fp) pl (jQ own ix σ) H5 s5:=λ I5=>I5.weak len3.symm λ j v e=>by
    by_cases hj:own.length<=j
    ·rw[own3 j hj];exact e
    ·exfalso
     unfold jQ at e;rw[bL (by simp;lia),aJ]at e;cases q:own[j]? with
     | none=>rw[q]at e;cases e
     | some a=>rw[q]at e;cases e
   have again:∀ {H5:Hp} {s5:gJ} {ys':List V} {its':Array gH} {n':Nat},Inv (X.comp (own++fr) scope C s H fp) ([(D,({cls:=.type "list",data:=.seq its na}:Obj))]++sY fp s2.heap) σ3 H5 s5->W (i+1) n' ys' H5->Vals ys' its'.toList->ys'.length<=sizeLine ->
     ∀ h',(∀ b o,b≠D->s5.heap.get? b=My o->h'.get? b=My o)->h'.PlainList D its'->∃ i ys its H',Inv (X.comp (own++fr) scope C s H fp) [] (jQ own ix σ) H' {s5 with heap:=h'}/\h'.PlainList D its/\Vals ys its.toList/\H' D=Rl/\tn i h'/\(∀ b∈fp,H' b=Rl)/\ys.length<=sizeLine/\W i n' ys H':=by
    intro H5 s5 ys' its' n' I5 w5 rv5 hz5 h' k5 a5;have hD5:H5 D=Rl:=(I5.pin (D,_) (aT _ (bc _ (aV.mpr rfl)))).2.1;have I6:Inv (X.comp (own++fr) scope C s H fp) [] (jQ own ix σ) H5 s5:=(weak I5).uJ λ p hp=>absurd hp (by simp);refine⟨i+1,ys',its',H5,I6.turned (t':=s5.toks) k5 hD5 hDC (.inr hDs) ncell (λ p hp=>absurd hp (by simp[Cx.comp])),a5,rv5,hD5,T.keep _ _ _ st2 λ b hb o e=>k5 b o (λ z=>nfp (z▸hb)) (I5.pin (b,o) (aT _ (aT _ (n_ hb e)))).1,λ b hb=>?_,hz5,w5⟩;obtain⟨o,e,d⟩:=T.obj _ _ st2 b hb;exact(I5.pin (b,o) (aT _ (aT _ (n_ hb e)))).2.1
   have pinD:∀ {H5:Hp} {s5:gJ},Inv (X.comp (own++fr) scope C s H fp) ([(D,({cls:=.type "list",data:=.seq its na}:Obj))]++sY fp s2.heap) σ3 H5 s5->s5.heap.PlainList D its:=λ I5 =>⟨na,(I5.pin (D,_) (aT _ (bc _ (aV.mpr rfl)))).1⟩
   cases ok with
   | false =>rw[aq au]at q4;rw[aq au];obtain⟨m',hm',w4⟩:=q4;exact⟨m',hm',again I4 w4 rv hz s4.heap (λ _ _ _ e=>e) (pinD I4)⟩
   | true =>rw[ai rfl]at q4;rw[ai rfl];refine thn (he C _ s4 σ3 H4 _ I4 q4) λ y s5 ⟨v,H5,I5,r5,m',hm',w5⟩=>?_;have hl:=rv.length;refine wpAny_list_append_plain (hsz:=by simp at hl;lia) (pinD I5) λ h6 hl6 hs6=>?_;refine⟨m',hm',again I5 w5 (its':=its.push y) ?_ (by rw[aC,aZ];lia) h6 (λ b o hb e=>hs6.extBut b o hb e) hl6⟩;rw[Array.toList_push];exact fO rv r5
 exact codeAny_compStart_list (loop _ rfl) (T.self _ 0 _ _ _ st0 (loop _ rfl))
theorem Fd (hc:X.calm=Rm)(S:ly X scope own fr ix){wi:TI}(hi:PI X tg iter wi)(hg:∀ C s H fp,PG (X.comp (own++fr) scope C s H fp) tg g)(hgo:BM own.length g)
  (ht:∀ C s H fp,PF (X.comp (own++fr) scope C s H fp) ifs tc) (he:∀ C s H fp,PE (X.comp (own++fr) scope C s H fp) elt te) (hs:∀ x,foldedSetIterable iter X.env x=pure x:=by intro _;rfl) :
  PE X (.ListComp elt [⟨tg,iter,ifs,0⟩] scope pos) (tLC own ix wi g tc te):=by
 intro pins s σ H Q I h;rw[eval_ListComp];refine wpAny_comprehension_free (use:=Rl) rfl hs (vD (S.cells I.ok)) S.kind S.loc (thn (hi pins s σ H _ I h) λ v s1 h1=>thn h1 λ itv s2 h2=>?_);obtain⟨it,fp,tn,J,H2,e,I2,T,st2,f2,W,⟨m0,w0⟩,turn⟩:=h2;subst e;refine Ae (Qe:=Q) (RR:=λ acc C=>compPost (model X.prog X.w) X.A X.xe Rl (EP X pins σ Q) acc C) I2 hc S T st2 f2 (λ C=>hg C _ _ _) hgo (λ C=>ht C _ _ _) (λ C=>he C _ _ _) w0 turn ?_;rintro D C s' H' J1 q hC hn ⟨m,hm⟩;refine⟨m,hm,λ h'' hs''=>⟨.ref D,H',?_,rfl,q⟩⟩;exact J1.turned (t':=s'.toks) (λ b o hb e=>hs''.extBut b o hb e) hn (bR (aH I2.lt hC)) (.inr (bA I2.sz hC)) (λ x c e z=>by
  obtain⟨v,q⟩:=I2.cell x c e;exact absurd q.lt (by rw[z];exact fL.mpr hC)) (λ p hp z=>by
  have:=av (I2.pin p hp).1;rw[z]at this;exact absurd this (fL.mpr hC))
theorem Kd {i:Nat}{x:Str}{px spos:Pos}(hN:X.N.Nodup)(hi':X.N[i]?=My x)(hx:Loc X.env.scope x)(hc:X.calm=Rm)(S:ly X scope own fr ix){wi:TI}(hi:PI X tg iter wi)(hg:∀ C s H fp,PG (X.comp (own++fr) scope C s H fp) tg g)(hgo:BM own.length g)
  (ht:∀ C s H fp,PF (X.comp (own++fr) scope C s H fp) ifs tc) (he:∀ C s H fp,PE (X.comp (own++fr) scope C s H fp) elt te)
  (hsw:swapsWith (.ListComp elt [⟨tg,iter,ifs,0⟩] scope pos) (My (.Name x px)) spos.line X.env=pure Rm:=by rfl) (hf:X.fn x=Rm\/X.env.scope.names.lookup x=My .local:=by trivial)
  (hs:∀ x,foldedSetIterable iter X.env x=pure x:=by intro _;rfl) :
  PS X (.Assign [.Name x px] (.ListComp elt [⟨tg,iter,ifs,0⟩] scope pos) spos) (λ D σ H=>tLC own ix wi g tc te σ H λ v H'=>D.nx (σ.set i (My v)) H'):=by
 intro pins s σ H D I h;rw[exec_Assign_Name_used _ _ _ _ hsw];refine ae (wpAny_standAt (ae ?_));show wpAny _ X.A (do let _<-comprehension (.ListComp elt [⟨tg,iter,ifs,0⟩] scope pos) scope X.env _ (newList []) Rn (eval iter X.env) (My (assign (.Name x px) X.env))) _ _ s;refine ae (cW (wpAny_comprehension_free (use:=My (assign (.Name x px) X.env)) (Q:=λ _ s'=>SP X pins D .next s') rfl hs (vD (S.cells I.ok)) S.kind S.loc
  (thn (hi pins s σ H _ I h) λ v s1 h1=>thn h1 λ itv s2 h2=>?_)) (λ _ s' hq=>af (af hq)) λ _ _ e=>e)
 obtain⟨it,fp,tn,J,H2,e,I2,T,st2,f2,W,⟨m0,w0⟩,turn⟩:=h2;subst e;refine Ae (Qe:=λ v H'=>D.nx (σ.set i (My v)) H') (RR:=λ acc C=>compPost (model X.prog X.w) X.A X.xe (My (assign (.Name x px) X.env)) (λ _ s'=>SP X pins D .next s') acc C) I2 hc S T st2 f2 (λ C=>hg C _ _ _) hgo (λ C=>ht C _ _ _) (λ C=>he C _ _ _) w0 turn ?_;rintro Dd C s' H' J1 q hC hn ⟨m,hm⟩;show wpAny _ X.A (assign (.Name x px) X.env (.ref Dd)) _ _ _;refine wpAny_assign_Name (xA (v:=.ref Dd) J1 hN hi' hx rfl (λ s'' J2 ⟨a,hsb,ha⟩=>?_) hf);have neC:a≠C:=by
  rcases ha with ha | ha
  ·rw[ha];exact aP (aH I2.lt hC)
  ·obtain⟨v,q⟩:=I2.cell x a ha;exact aP (aH q.lt hC)
 refine⟨m,hm.sameBut hsb neC.symm,λ h'' hs''=>⟨_,H',?_,q⟩⟩;exact J2.turned (t':=s''.toks) (λ b o hb e=>hs''.extBut b o hb e) hn (bR (aH I2.lt hC)) (.inr (bA I2.sz hC)) (λ x c e z=>by
  obtain⟨v,q⟩:=I2.cell x c e;exact absurd q.lt (by rw[z];exact fL.mpr hC)) (λ p hp z=>by
  have:=av (I2.pin p hp).1;rw[z]at this;exact absurd this (fL.mpr hC))
end
end L2
namespace Tb
open PySem PySem.W PySem.Spec PyProof.Rows
def pLt (a b:Int×Int):Bool:=decide (a.1<b.1) || (decide (a.1=b.1)&&decide (a.2<b.2))
theorem oh (a b:Int×Int):pLt a b=Rm↔a.1<b.1\/(a.1=b.1/\a.2<b.2):=by simp[pLt]
theorem tH (a b:Int×Int):pLt a b=Rn↔¬ (a.1<b.1\/(a.1=b.1/\a.2<b.2)):=by rw[<-oh];simp
def PO:KeyOrd where
 α:=Int×Int
 blt:=pLt
 irrefl:=λ a=>by rw[tH];lia
 trans:=λ a b c h1 h2=>by rw[oh]at *;lia
 negTrans:=λ a b c h=>by rw[oh]at *;rw[oh];lia
 total:=λ a b h1 h2=>by
  rw[tH]at h1 h2
  exact gu (by lia) (by lia)
section
variable {prog:Program}{w:World}{A:Around}{E:gE}{s:gJ}{h₀:Heap}{L:Addr}{m:gD}{news:gL}
theorem Fe {h:Heap}{x y:Int}{b:Addr}(k:lj prog w h [x,y] b):∃ o n t u,h.get? b=My o/\o.cls=.type "tuple"/\o.data=.seq #[.int x t,.int y u] n:=by
 obtain⟨o,its,n,e1,e2,e3,e4⟩:=k;generalize hits:its.toList=L at e4;cases e4 with
 | cons h1 e5=>cases e5 with
  | cons h2 e6 =>cases e6;obtain⟨t,q1⟩:=eK h1;obtain⟨u,q2⟩:=eK h2;refine⟨o,n,t,u,e1,e2,?_⟩;rw[e3,<-q1,<-q2];congr 1;apply Array.ext';rw[hits]
theorem ue {h:Heap}:∀ (vs:List gH),(∀ v∈vs,∃ b x y,v=.ref b/\lj prog w h [x,y] b)->∃ fs:List gH,KatTups h vs fs/\fs.length=vs.length/\∀ f∈fs,∃ i t,f=Value.int i t
 | [],_=>⟨[],trivial,rfl,λ f hf=>by cases hf⟩
 | v::r,hv=>by
  obtain⟨fs,q1,q2,q3⟩:=ue r λ u hu=>hv u (aw _ hu);obtain⟨b,x,y,rfl,tk⟩:=hv v ay;obtain⟨o,n,t,u,e1,e2,e3⟩:=Fe tk;refine⟨.int x t::fs,KatTups.cons e1 e2 e3 rfl q1,by simp[q2],λ f hf=>?_⟩;rcases ax.mp hf with rfl | hf
  ·exact⟨x,t,rfl⟩
  ·exact q3 f hf
theorem Ff {i j:Nat}{vs:List gH}{a b:Int×Int}{p q:Addr}{C:Bool->gJ->Prop}(hi:vs[i]?=My (.ref p))(hj:vs[j]?=My (.ref q))(ki:lj prog w s.heap [a.1,a.2] p)(kj:lj prog w s.heap [b.1,b.2] q)(h:C (pLt a b) s) :
  kas_ask prog w A (tuples' Rm) vs i j C s:=by
 unfold kas_ask;rw[aF,hi,aF,hj,dZ,dZ];obtain⟨o1,n1,t1,u1,e1,c1,d1⟩:=Fe ki;obtain⟨o2,n2,t2,u2,e2,c2,d2⟩:=Fe kj;refine kat_lt e1 d1 e2 d2 ?_;show KatLex prog w A Rm _ C [(Value.int a.1 t1,Value.int b.1 t2),(Value.int a.2 u1,Value.int b.2 u2)] 0 s;refine kat_cons (wpAny_eqBool_int ?_);by_cases h1:a.1=b.1
 ·rw[show(a.1==b.1)=Rm by simpa using h1]
  refine kat_yes (kat_cons (wpAny_eqBool_int ?_));by_cases h2:a.2=b.2
  ·rw[show(a.2==b.2)=Rm by simpa using h2]
   refine kat_yes (kat_nil ?_);have e:pLt a b=Rn:=by rw[tH];lia
   rw[e]at h;exact h
  ·rw[show(a.2==b.2)=Rn by simpa using h2]
   refine kat_no ?_;show wpAny _ _ (oneLt' Rn (.int a.2 u1) (.int b.2 u2)) _ _ _;refine kat_one _ _ (lt_int ?_);have e:pLt a b=decide (a.2<b.2):=by simp[pLt,h1]
   rw[e]at h;exact h
 ·rw[show(a.1==b.1)=Rn by simpa using h1]
  refine kat_no ?_;show wpAny _ _ (oneLt' Rm (.int a.1 t1) (.int b.1 t2)) _ _ _;refine oneLt_int ?_;have e:pLt a b=decide (a.1<b.1):=by simp[pLt,h1]
  rw[e]at h;exact h
theorem qN {D:Addr}{vs:List gH}{X:Nat->Int×Int}{Q:gE}(F:Fr h₀ L s.heap m)(N:News h₀ L s.heap ((D,listOf vs.toArray 0)::news))(hD:∀ p∈news,p.1≠D)(h2:2<=vs.length)(h64:vs.length<64)
  (ht:∀ h',Fr h₀ L h' m->News h₀ L h' news->∀ (i:Nat) v,vs[i]?=My v->∃ b,v=.ref b/\lj prog w h' [(X i).1,(X i).2] b)
  (h:∀ (p:Array Nat) h' c,Pm vs.length p->Sor (O:=PO) X p vs.length->Fr h₀ L h' m->News h₀ L h' ((D,listOf (List.toArray (p.toList.map λ i=>vs.getD i Value.none)) c)::news)->Q .none {s with heap:=h'}) :
  wpAny (model prog w) A (call (.builtin "list.sort") [.ref D]) Q E s:=by
 refine kat_lsort F N (.head hD) (by simp) h2 h64 λ e1 h' F' N'=>?_;have N'':News h₀ L h' news:=λ p hp=>N' p (aw _ hp);have keys:=ht h' F' N'';have at_i:∀ i,i<vs.length->∃ b,vs[i]?=My (.ref b)/\lj prog w h' [(X i).1,(X i).2] b:=λ i hi=>by obtain⟨b,e,tk⟩:=keys i vs[i] (by simp[hi]);exact⟨b,by rw[<-e];simp[hi],tk⟩
 obtain⟨fs,q1,q2,q3⟩:=ue (prog:=prog) (w:=w) (h:=h') vs λ v hv=>by obtain⟨i,hi,ei⟩:=bW hv;obtain⟨b,e,tk⟩:=keys i v (by rw[<-ei];simp[hi]);exact⟨b,_,_,e,tk⟩
 refine kat_kind (s:={s with heap:=h'}) (T:=.type "int") q1 (by lia) (λ v hv=>?_) (by decide) ?_
 ·obtain⟨i,t,rfl⟩:=q3 v hv;exact Looks.of_pure rfl
 ·show(kas_sort vs.length).kasWp (kas_ask prog w A.in1 (tuples' Rm) vs) _ _
  refine Tr.wp (n:=vs.length) (c:=cO (O:=PO) X) (R:=λ p=>Pm vs.length p/\Sor (O:=PO) X p vs.length) (λ i j C hi hj hc=>?_) (λ p hp=>?_) _ (Lo (by lia))
  ·obtain⟨b1,v1,k1⟩:=at_i i hi;obtain⟨b2,v2,k2⟩:=at_i j hj;exact Ff v1 v2 k1 k2 hc
  ·exact KasFin.intro F' N' (.head hD) λ h2 c F2 N2=>h p h2 c hp.1 hp.2 F2 N2
theorem qO {D:Addr}{vs:List gH}{Q:gE}(ho:s.heap.get? D=My (seqObj "list" vs.toArray 0))(h2:vs.length<2)
  (h:∀ h' c,(∀ b o,b≠D->s.heap.get? b=My o->h'.get? b=My o)->h'.get? D=My (seqObj "list" vs.toArray c)->Q .none {s with heap:=h'}) :
  wpAny (model prog w) A (call (.builtin "list.sort") [.ref D]) Q E s:=by
 have hlt:D<s.heap.objs.size:=av ho;refine bY slot_list_sort ⟨_,ho,rfl⟩ entry_list_sort ?_ (args_list_sort _);rw[list_sort_plain];refine ae (listItems_at ho rfl ?_);refine ae (listUpdate_at ho rfl ?_ (by simp;rw[sizeLine_eq];lia) (by simp));obtain⟨e1,ho1⟩:∃ e1,(s.heap.update D (Obj.mapSeq λ _=>#[])).get? D=My (seqObj "list" #[] e1):=⟨_,get?_update_seq ho λ _=>#[]⟩;refine ae (seqEpoch_at ho1 rfl ?_);refine ae (wpAny_newTuple ?_ (by rw[sizeLine_eq];simp;lia));refine ae (fU ?_ (by simp));refine bK ?_;have ho6:(((s.heap.update D (Obj.mapSeq λ _=>#[])).push (seqObj "tuple" vs.toArray 0)).push (seqObj "list" #[] 0)).get? D=My (seqObj "list" #[] e1) :=
  ag _ (ag _ ho1)
 show wpAny (model prog w) _ _ _ _ {s with heap:=((s.heap.update D (Obj.mapSeq λ _=>#[])).push (seqObj "tuple" vs.toArray 0)).push (seqObj "list" #[] 0)};dsimp only;have hsz:vs.toArray.size<2:=by simpa using h2
 rw[ai hsz,ai hsz];refine ae (af ?_);rw[StateT.run_pure];refine ae (af ?_);dsimp only;refine ae (seqEpoch_at ho6 rfl ?_);have hout:(arrOf (SortSt.mk' general' (vs.toArray.zip vs.toArray) #[] 7 Rl)).map (·.2)=vs.toArray:=by show(vs.toArray.zip vs.toArray).map (·.2)=vs.toArray;apply Array.ext';simp;exact List.map_snd_zip (ar _)
 rw[hout];refine ae (listUpdate_at ho6 rfl ?_ (by simp) (by simp;rw[sizeLine_eq];lia));simp only[bne_self_eq_false,aR,cp];obtain⟨c,hc⟩:∃ c,((((s.heap.update D (Obj.mapSeq λ _=>#[])).push (seqObj "tuple" vs.toArray 0)).push (seqObj "list" #[] 0)).update D (Obj.mapSeq λ _=>vs.toArray)).get? D=My (seqObj "list" vs.toArray c):=⟨_,get?_update_seq ho6 λ _=>vs.toArray⟩;refine af ⟨_,rfl,h _ c (λ b o hb e=>?_) hc⟩;rw[Heap.get?_update_ne _ _ _ _ hb];refine ag _ (ag _ ?_);rw[Heap.get?_update_ne _ _ _ _ hb];exact e
theorem Fg {r:Addr}{Q:Bool->gJ->Prop}(hT:s.TypeIs (.ref r) "set")(h:Q Rn s):wpAny (model prog w) A (Builtin.List.listLengthHint (.ref r)) Q E s:=by
 unfold Builtin.List.listLengthHint;refine ae (wpAny_specialOf hT PySem.F.slot_set_len.lookup ?_);generalize hid:("set.__len__":String)=id0
 wp_delta
 rw[show splitId id0=My ("set","__len__") from by subst hid;decide +kernel];subst hid;refine ae (wpAny_isInstance (T:="set") (b:=Rm) hT (by rw[isSubtype_type];kernel_rfl) ?_);refine wpAny_ite_split (λ hab=>absurd hab (by decide)) (λ _=>?_);refine wpAny_ite_split (λ _=>?_) (λ hab=>absurd (by decide +kernel) hab);exact ae (eR hT (af h))
theorem Fh {S:Addr}{oS:Obj}{es:Array (Int×gH)}{ep:Nat}{t:SetTable}{Q:gE}(hS:s.heap.get? S=My oS)(hx:oS.ExactSet)(hd:oS.data=.set es ep t)(T:TOk t (es.toList.map (·.1)))(hp:t.plain=Rm)
  (hQ:Q (.ref s.heap.objs.size) {s with heap:=s.heap.push {cls:=.type "set_iterator",data:=.fields #[rawInt 0,rawInt 0,.ref S,rawInt es.size,rawInt ep]}}):wpAny (model prog w) A (pyIter (.ref S)) Q E s:=by
 have hT:s.TypeIs (.ref S) "set":=⟨oS,hS,hx.1⟩;have hfit:=fits_of T (n:=es.size) (by simp);refine wpAny_pyIter_slot hT F.slot_set_iter (bY F.slot_set_iter hT xc ?_ (F.args_set_iter_1 _));unfold Builtin.«frozenset.__iter__»;refine ae ?_;unfold Builtin.Frozenset.slot0;refine ae (af ?_);show wpAny _ _ (pure S) _ _ _;refine af ?_;refine ae ?_;unfold Builtin.Frozenset.sizeOf;refine ae (pI hS hd T (af ?_));refine ae ?_;unfold setDrawn;refine ae (cn hS hd hfit ?_);dsimp only;refine ae (yI ?_);refine af ?_;show wpAny _ _ (if (!w.params.followText "set-order"&&(!t.plain&&decide (es.size>1)))=Rm then _ else _) _ _ _;rw[hp];simp only[dS,gq,fG,aR,cp];refine ae (af ?_);refine ae (ae (cn hS hd hfit (af ?_)));refine ae (bB (af ⟨_,rfl,"set_iterator",_,⟨_,aE _ rfl,rfl⟩,kA.lookup,?_⟩));exact hQ
theorem CO {S:Addr}{oS:Obj}{es:Array (Int×gH)}{ep:Nat}{t:SetTable}(hx:oS.ExactSet)(hd:oS.data=.set es ep t)(T:TOk t (es.toList.map (·.1)))(hp:t.plain=Rm)(hl:t.led=!(w.params.followText "set-order")) :
  KdlSrc prog w "set" S S es.size (λ i v=>∃ hv,(seen w S ep es)[i]?=My (hv,v)) (λ h=>h.get? S=My oS) where
 type:=λ _ e=>⟨oS,e,hx.1⟩
 there:=λ _ e=>⟨av e,av e⟩
 keep:=λ _ _ e hk=>hk S (.inl rfl) oS e
 notList:=by decide
 notTuple:=by decide
 hint:=λ _ _ _ _ e hq=>Fg ⟨oS,e,hx.1⟩ hq
 iter:=λ A s hh e=>⟨_,_,(λ _ _ hq=>Fh e hx hd T hp hq),E_ hh (aP (av e)) hd T hp hl,⟨⟨_,0,aE _ rfl,rfl,rfl,λ _=>BJ T.ri⟩,ag _ e⟩⟩
end
end Tb
namespace L2
open PySem PySem.W PySem.Spec PyProof.Rows Tb
section
variable {X:Cx}{pins:gL}{σ:St}{H:Hp}{s:gJ}
theorem om {prog:Program}{w:World}:∀ {k:List Int} {its:List gH},Vals (k.map V.int) its->ItemsAre (intKind prog w) k its
 | [],_,.nil=>.nil
 | i::r,_,.cons ⟨t,e⟩ q=>by subst e;exact .cons (intKind_is _ _ _ _) (om q)
theorem CP {prog:Program}{w:World}{H:Hp}{h:Heap}(ok:HOk prog w H h){k:List Int}{b:Addr}(e:H b=My (.tup (k.map V.int))):lj prog w h k b:=by obtain⟨_,its,r,o,e1,e2,n,e3⟩:=ok b _ e;exact⟨o,its.toArray,n,e1,e2,e3,by simpa using om r⟩
def DJ (H:Hp)(vs:List V)(kk:List (List Int)):Prop:=Paired (λ v k=>∃ b,v=V.ref b/\H b=My (.tup (k.map V.int))) vs kk
def HY (w:World)(H:Hp)(S:Addr)(ks:List (List Int)):Prop:=∃ oS es ep t,H S=My (.ext λ h=>h.get? S=My oS)/\oS.ExactSet/\oS.data=.set es ep t/\TOk t (es.toList.map (·.1))/\t.plain=Rm/\t.led=!(w.params.followText "set-order")/\es.size<=76/\ks.Nodup /\
 Paired (λ k (e:Int×gH)=>∃ b,e.2=Value.ref b/\H b=My (.tup (k.map V.int))) ks es.toList
theorem nJ {α β:Type}{F:α->β->Prop}:∀ {xs:List α} {ys:List β},Paired F xs ys->∀ (i:Nat) (x:α),xs[i]?=My x->∃ y,ys[i]?=My y/\F x y
 := by
  intro xs ys h;induction h with
  | nil=>intro i x h;simp at h
  | cons h t ih =>
    intro i x e;cases i with
    | zero =>rw[eJ]at e;cases e;exact⟨_,rfl,h⟩
    | succ i =>rw[bZ]at e;obtain⟨y,q1,q2⟩:=ih i x e;exact⟨y,by rw[bZ];exact q1,q2⟩
theorem Fi (hc:X.calm=Rm)(hu:X.A.units+64<cLine):jq X (.type "set") (λ xs H Q=>∃ l vs kk,xs=[V.ref l]/\SqL X.K H l vs/\DJ H vs kk/\vs.length<=40 /\
  ∀ S o ks,H S=Rl->HY X.w (upd H S o) S ks->(∀ k,k∈ks↔k∈kk)->Q (.ref S) (upd H S o)):=by
 intro pins s σ H xs us Q I r h;obtain⟨l,vs,kk,rfl,hl,ht,hz,q⟩:=h;obtain⟨u,rfl,ru⟩:=vals1 r;cases ru;obtain⟨its,rv,p,_⟩:=I.list hl;have hlen:vs.length=its.length:=rv.length;have hkl:vs.length=kk.length:=ht.length;refine z3 (G:=λ k b=>H b=My (.tup (k.map V.int))) (I.ok.hd hc) (dN (show X.A.units+40<=X.A.units+64 by lia) hu) p.isList (kk:=kk) (by simp;lia) (by simp;lia) (λ j v hj=>?_) λ h' tk ks kp S' m'=>?_
 ·have hj:its[j]?=My v:=by simpa using hj
  have hjl:j<vs.length:=by have:=(aL.mp hj).1;lia
  obtain⟨k,hk1,b,hb,hb2⟩:=nJ ht j vs[j] (by simp[hjl]);obtain⟨u,hu1,hu2⟩:=rv.get (x:=vs[j]) (i:=j) (by simp[hjl]);rw[hj]at hu1;cases hu1;rw[hb]at hu2;cases hu2;exact⟨k,b,hk1,rfl,CP I.hok hb2,hb2⟩
 ·obtain⟨oS,es,ep,t,ho,hx,hd,T,En,hp,hl',hr,nd⟩:=S';have keep:∀ b u,s.heap.get? b=My u->h'.get? b=My u:=λ b u e=>kp b u (av e) e;have hn:=I.hok.fresh (ar s.heap.objs.size);have I':Inv X pins σ (upd H s.heap.objs.size (.ext λ h=>h.get? s.heap.objs.size=My oS)) {s with heap:=h',toks:=tk}:=I.laid keep (ar _) ⟨ho,⟨_,ho⟩,λ h1 h2 a b=>b _ a⟩;refine⟨.ref s.heap.objs.size,_,I',rfl,q _ _ ks hn ⟨oS,es,ep,t,gW,hx,hd,T,hp,hl',?_,nd,mT (λ k e ⟨b,e1,_,e2⟩=>⟨b,by rw[e1],by rw[g9 (ik e2 hn)];exact e2⟩) En⟩ m'⟩;rcases hr with⟨_,z⟩ | ⟨_,z⟩ | ⟨_,z⟩<;>lia
theorem Inv.qe {h':Heap}{tk:Nat}{m:gD}(I:Inv X pins σ H s)(hm:s.heap.Ns X.env.locals m)(F:Fr (Att.jd s.heap) X.env.locals h' m)(N:News (Att.jd s.heap) X.env.locals h' (kU (Att.jd s.heap) s.heap X.env.locals)) :
  Inv X pins σ H {s with heap:=h',toks:=tk}:=by
 have no:∀ b,(Att.jd s.heap).get? b=Rl:=λ b=>cA (aQ _);have keep:∀ b o,b≠X.env.locals->s.heap.get? b=My o->h'.get? b=My o:=λ b o hb e=>(N (b,o) (zK hb (no b) e)).1;refine I.step (g':=s.gens) (d':=s.drawn) (ch:=[]) (λ _ z=>nomatch z) (λ b o hb _ _ e _=>keep b o hb e) (λ b o hb _ _ e _=>⟨o.slots,keep b o hb e⟩) (λ _ _ _ _ n=>n) (λ b o _ e=>?_) (λ _ _ e=>e) (λ _ _ _ e=>e) (λ b ps e=>⟨#[],by rw[e];simp⟩) (λ m' hm'=>?_) (λ b u e=>?_) I.bare
 ·by_cases hb:b=X.env.locals
  ·obtain⟨o',_,_,ho',_⟩:=F.ns;exact⟨o',by rw[hb];exact ho'⟩
  ·exact⟨o,keep b o hb e⟩
 ·have:m'=m:=by
   obtain⟨o1,es1,ep1,a1,a2,_,a4⟩:=hm;obtain⟨o2,es2,ep2,b1,b2,_,b4⟩:=hm';rw[a1]at b1;cases b1;rw[a2]at b2;cases b2;funext x;rw[<-a4 x,<-b4 x]
  rw[this];exact F.ns
 ·refine(I.hok b u e).u4 (λ c v hc q=>keep c v ?_ q) (λ _ q=>q) λ _ _ q=>q
  rcases hc with z | z
  ·intro hL;have hf:=I.free;rw[<-hL,z,e]at hf;cases hf
  ·intro hL;have hf:=I.free;rw[<-hL,z]at hf;cases hf
theorem vE {P:Program}{w:World}{H:Hp}{h:Heap}{a:Addr}{o:HO}(x:jm P w H h a o):∃ ob,h.get? a=My ob:=by
 cases o with
 | lst xs=>obtain⟨_,_,_,_,e⟩:=x;exact⟨_,e⟩
 | tup xs=>obtain⟨_,_,_,ob,e,_⟩:=x;exact⟨ob,e⟩
 | dK kvs=>obtain⟨_,_,_,_,ob,_,_,e,_⟩:=x;exact⟨ob,e⟩
 | dT kvs=>obtain⟨_,_,_,_,ob,_,_,e,_⟩:=x;exact⟨ob,e⟩
 | set S n=>obtain⟨ob,_,_,_,e,_⟩:=x;exact⟨ob,e⟩
 | ins C dx fs=>obtain⟨_,_,_,e,_⟩:=x;exact⟨_,e⟩
 | own y=>obtain⟨ob,e⟩:=x;exact⟨ob,e⟩
 | xd fs=>obtain⟨_,⟨ob,_,_,e,_⟩,_⟩:=x;exact⟨ob,e⟩
 | rng lo hi=>obtain⟨_,_,_,e⟩:=x;exact⟨_,e⟩
 | frz ob u=>obtain⟨e,_⟩:=x;exact⟨_,e⟩
 | tbl ps=>exact⟨_,x⟩
 | met f y=>exact⟨_,x⟩
 | ext φ=>obtain⟨_,⟨ob,e⟩,_⟩:=x;exact⟨ob,e⟩
theorem uf {α β:Type}{F:α->β->Prop}{ys ys':List β}(p:ys.Perm ys'):∀ {xs:List α},Paired F xs ys->∃ xs',xs.Perm xs'/\Paired F xs' ys':=by
 induction p with
 | nil=>intro xs h;exact⟨xs,.refl _,h⟩
 | cons y _ ih =>
  intro xs h;cases h with
  | cons h t =>obtain⟨xs',q1,q2⟩:=ih t;exact⟨_,q1.cons _,.cons h q2⟩
 | swap y z l =>
  intro xs h;cases h with
  | cons h1 t =>
   cases t with
   | cons h2 t=>exact⟨_,List.Perm.swap _ _ _,.cons h2 (.cons h1 t)⟩
 | trans _ _ ih1 ih2 =>intro xs h;obtain⟨x1,q1,q2⟩:=ih1 h;obtain⟨x2,q3,q4⟩:=ih2 q2;exact⟨x2,q1.trans q3,q4⟩
theorem oq {α β γ:Type}{F:β->γ->Prop}(f:α->β):∀ {xs:List α} {ys:List γ},Paired F (xs.map f) ys->Paired (λ a y=>F (f a) y) xs ys
 | [],_,.nil=>.nil
 | _::_,_,.cons h t=>.cons h (oq f t)
theorem kY {α β γ:Type}{F:β->γ->Prop}{f:α->β}{g:α->γ}:∀ (l:List α),(∀ a∈l,F (f a) (g a))->Paired F (l.map f) (l.map g)
 | [],_=>.nil
 | a::r,h=>.cons (h a ay) (kY r λ b hb=>h b (aw _ hb))
theorem jJ {α:Type}(l:List α)(d:α):(Ro l.length).map (λ i=>l.getD i d)=l:=by
 apply fR;intro i;rw[aJ];by_cases h:i<l.length
 ·rw[cP h];simp[h]
 ·rw[bV (by simpa using h),bV (by lia)];rfl
theorem vF (hc:X.calm=Rm):jq X (.builtin "sorted") (λ xs H Q=>∃ S kk,xs=[V.ref S]/\HY X.w H S (kk.map λ(k:Int×Int)=>[k.1,k.2])/\kk.length<64 /\
  ∀ p ws (ss:List (Int×Int)),H p=Rl->DJ H ws (ss.map λ k=>[k.1,k.2])->ss.Pairwise (λ a b=>pLt a b=Rm)->ss.Perm kk->Q (.ref p) (upd H p (.lst ws))):=by
 intro pins s σ H xs us Q I r h;obtain⟨S,kk,rfl,hS,h64,q⟩:=h;obtain⟨u,rfl,ru⟩:=vals1 r;cases ru;obtain⟨oS,es,ep,t,e1,hx,hd,T,hp,hl,hz,nd,pr⟩:=hS;have hok:=I.hok S _ e1;have hS:s.heap.get? S=My oS:=hok.1;obtain⟨m,hm,_⟩:=id I.loc;have no:∀ b,(Att.jd s.heap).get? b=Rl:=λ b=>cA (aQ _);have hkl:kk.length=es.size:=by have:=pr.length;simpa using this
 have ndk:kk.Nodup:=by rw[aI]at nd ⊢;rw[bp]at nd;exact nd.imp λ h e=>h (by rw[e])
 obtain⟨k3,pk,pr3⟩:=uf (qc X.w S ep es).symm (oq _ pr);have hk3:k3.length=es.size:=by rw[<-pk.length_eq,hkl]
 refine ee kind_sorted plain_sorted entry_sorted (args_sorted1 _) ?_;unfold Builtin.«sorted»;refine ae (m:=checkCount "sorted" 1 1 _) (af (ae (kdu_collect (A:=X.A.in1) (CO hx hd T hp hl) (I.ok.hd hc) hS (by rw[sizeLine_eq];lia) λ h1 tk acc hk hacc=>?_)));have hal:acc.toList.length=es.size:=by rw[bx];exact hacc.1
 have hav:∀ (j:Nat) (v:gH),acc.toList[j]?=My v->∃ hv,(seen X.w S ep es)[j]?=My (hv,v):=λ j v e=>hacc.2 j v (by rw[<-bh];exact e);generalize acc.toList=vs at hal hav;refine ae (fU ?_ (by rw[sizeLine_eq];lia));have hL:X.env.locals<h1.objs.size:=by obtain⟨oL,_,_,ho,_⟩:=hm;exact av (hk _ _ ho)
 have at_j:∀ j,j<es.size->∃ b,vs[j]?=My (.ref b)/\H b=My (.tup [.int (k3.getD j (0,0)).1,.int (k3.getD j (0,0)).2]):=λ j hj=>by
  obtain⟨hv,e2⟩:=hav j vs[j] (by simp[hal,hj]);have hj3:k3[j]?=My (k3.getD j (0,0)):=by rw[aF];simp[hk3,hj]
  obtain⟨y,y1,b,y2,y3⟩:=nJ pr3 j _ hj3;rw[bh,e2]at y1;cases y1;exact⟨b,by rw[<-y2];simp[hal,hj],y3⟩
 have keep1:∀ b o,s.heap.get? b=My o->(h1.push {cls:=.type "list",data:=.seq vs.toArray}).get? b=My o:=λ b o e=>ag _ (hk b o e);have F1:Fr (Att.jd s.heap) X.env.locals (h1.push {cls:=.type "list",data:=.seq vs.toArray}) m:=⟨hm.at' λ o e=>keep1 _ o e,(λ b o e=>by rw[no]at e;cases e),aQ _⟩;have N1:News (Att.jd s.heap) X.env.locals (h1.push {cls:=.type "list",data:=.seq vs.toArray}) (kU (Att.jd s.heap) s.heap X.env.locals):=λ p hp=>let ⟨a,_,c⟩:=jG hp;⟨keep1 _ _ c,a,no _⟩;have hD:(h1.push {cls:=.type "list",data:=.seq vs.toArray}).get? h1.objs.size=My (listOf vs.toArray 0):=aE _ rfl;have hneD:∀ p∈kU (Att.jd s.heap) s.heap X.env.locals,p.1≠h1.objs.size:=λ p hp=>let ⟨_,_,c⟩:=jG hp;aP (av (hk _ _ c));have fin:∀ (l:List Nat) h2 c tk2,l.Perm (Ro es.size)->(l.map λ i=>k3.getD i (0,0)).Pairwise (λ a b=>pLt b a=Rn)->Fr (Att.jd s.heap) X.env.locals h2 m->News (Att.jd s.heap) X.env.locals h2 ((h1.objs.size,listOf (List.toArray (l.map λ i=>vs.getD i Value.none)) c)::kU (Att.jd s.heap) s.heap X.env.locals) ->
   EP X pins σ Q (.ref h1.objs.size) {s with heap:=h2,toks:=tk2}:=λ l h2 c tk2 hlp hso F2 N2=>by
  have I2:Inv X pins σ H {s with heap:=h2,toks:=tk2}:=I.qe hm F2 λ p hp=>N2 p (aw _ hp);have hn:H h1.objs.size=Rl:=by
   cases e:H h1.objs.size with
   | none=>rfl
   | some o =>obtain⟨o',ho'⟩:=vE (I.hok _ _ e);exact absurd (av (hk _ _ ho')) (aW _)
  have hlt:∀ i∈l,i<es.size:=λ i hi=>aD.mp (hlp.mem_iff.mp hi);let bo:Nat->Addr:=λ i=>match vs[i]? with | some (.ref b)=>b | _=>0
  have hbo:∀ i,i<es.size->vs.getD i Value.none=.ref (bo i)/\H (bo i)=My (.tup [.int (k3.getD i (0,0)).1,.int (k3.getD i (0,0)).2]):=λ i hi=>by
   obtain⟨b,b1,b2⟩:=at_j i hi;have:bo i=b:=by show(match vs[i]? with | some (.ref b)=>b | _=>0)=b;rw[b1]
   rw[this,aF,b1];exact⟨rfl,b2⟩
  have new:jm X.prog X.w (upd H h1.objs.size (.lst (l.map λ i=>V.ref (bo i)))) h2 h1.objs.size (.lst (l.map λ i=>V.ref (bo i))) :=
   ⟨by rw[ah,hlp.length_eq,b_,sizeLine_eq];lia,l.map λ i=>vs.getD i Value.none,c,kY l λ i hi=>(hbo i (hlt i hi)).1,(N2 _ ay).1⟩
  have I3:Inv X pins σ (upd H h1.objs.size (.lst (l.map λ i=>V.ref (bo i)))) {s with heap:=h2,toks:=tk2}:=I2.Ad hn (bA I.ok.above (eM hL)) (bR hL) (λ x c e z=>by
    obtain⟨v,o,ho,_⟩:=I.cell x c e;exact absurd (av (hk _ _ ho)) (by rw[z];exact aW _)) (λ p hp z=>by
    exact absurd (av (hk _ _ (I.pin p hp).1)) (by rw[z];exact aW _)) new
  have perm2:(l.map λ i=>k3.getD i (0,0)).Perm kk:=by have:=hlp.map λ i=>k3.getD i (0,0);rw[<-hk3,jJ]at this;exact this.trans pk.symm
  have ndl:(l.map λ i=>k3.getD i (0,0)).Nodup:=perm2.nodup_iff.mpr ndk;refine⟨.ref h1.objs.size,_,I3,rfl,q _ _ (l.map λ i=>k3.getD i (0,0)) hn ?_ ?_ perm2⟩
  ·rw[bq];exact kY l λ i hi=>⟨bo i,rfl,(hbo i (hlt i hi)).2⟩
  ·rw[aI]at ndl
   refine(hso.and ndl).imp λ{a b} ⟨h1,h2⟩=>?_;cases e:pLt a b with
   | true=>rfl
   | false=>exact absurd (Tb.PO.total a b e h1) h2
 refine ae (bK ?_);by_cases h2:2<=vs.length
 ·refine qN (X:=λ i=>k3.getD i (0,0)) F1 (λ p hp=>?_) hneD h2 (by lia) (λ h' F' N' i v hv=>?_) λ p h' c P So F2 N2=>af ⟨_,rfl,?_⟩
  ·rcases ax.mp hp with rfl | hp
   ·exact⟨hD,bR hL,no _⟩
   ·exact N1 p hp
  ·have hi:i<es.size:=by
    have:=(aL.mp hv).1;lia
   obtain⟨b,b1,b2⟩:=at_j i hi;rw[hv]at b1;cases b1;refine⟨b,rfl,?_⟩;have I2:Inv X pins σ H {s with heap:=h',toks:=s.toks}:=I.qe hm F' N';exact CP I2.hok (k:=[_,_]) b2
  ·rw[hal]at P So
   refine fin p.toList h' c _ P.2 ?_ F2 N2;rw[bp,bM];intro i j hi hj hij;have hjs:j<es.size:=by have:=P.size;simp at hj;lia
   have:=So i j (by lia) hjs;unfold KeyOrd.kle Kp at this;have gi:p.getD i 0=p.toList[i]:=by simp[Array.getD,show i<p.size by simpa using hi]
   have gj:p.getD j 0=p.toList[j]:=by simp[Array.getD,show j<p.size by simpa using hj]
   rw[gi,gj]at this;exact this
 ·refine qO hD (by lia) λ h' c kp hc'=>af ⟨_,rfl,?_⟩
  refine fin (Ro es.size) h' c _ (.refl _) ?_ ⟨F1.ns.at' λ o e=>kp _ o (aP hL) e,(λ b o e=>by rw[no]at e;cases e),aQ _⟩ λ p hp=>?_
  ·have:((Ro es.size).map λ i=>k3.getD i (0,0)).length<2:=by simp;lia
   match (Ro es.size).map (λ i=>k3.getD i (0,0)),this with
   | [],_=>exact .nil
   | [a],_=>exact dH _ _
  ·rcases ax.mp hp with rfl | hp
   ·refine⟨?_,bR hL,no _⟩;rw[<-hal,jJ];exact hc'
   ·exact⟨kp _ _ (hneD p hp) (N1 p hp).1,(N1 p hp).2⟩
end
end L2
namespace L2
open PySem PySem.Spec PyProof.Rows
inductive Dt where
 | non | bl (b:Bool) | int (i:Int) | str (x:Str) | ty (n:String) | opq (v:V) | dct (kvs:List (Int×Int)) | tup (ds:List Dt) | lst (ds:List Dt)
def kvD (kvs:List (Int×Int)):List (Key×V):=kvs.map λ p=>(Sum.inl p.1,V.int p.2)
mutual
inductive Is (K:gG) (H:Hp):V->Dt->Prop
 | non:Is K H .non .non
 | bl (b:Bool):Is K H (.bl b) (.bl b)
 | int (i:Int):Is K H (.int i) (.int i)
 | str (x:Str):Is K H (.str x) (.str x)
 | ty (n:String):Is K H (.ty n) (.ty n)
 | opq (v:V):Is K H v (.opq v)
 | dct {a:Addr} {kvs:List (Int×Int)}:Rd H a (.dK (kvD kvs))->Is K H (.ref a) (.dct kvs)
 | tup {a:Addr} {xs:List V} {ds:List Dt}:SqT K H a xs->Iss K H xs ds->Is K H (.ref a) (.tup ds)
 | lst {a:Addr} {xs:List V} {ds:List Dt}:H a=My (.lst xs)->Iss K H xs ds->Is K H (.ref a) (.lst ds)
inductive Iss (K:gG) (H:Hp):List V->List Dt->Prop
 | nil:Iss K H [] []
 | cons {x:V} {xs:List V} {d:Dt} {ds:List Dt}:Is K H x d->Iss K H xs ds->Iss K H (x::xs) (d::ds)
end
section
variable {K:gG}{H H':Hp}
theorem Is.mono (ht:∀ a xs,SqT K H a xs->SqT K H' a xs)(hl:∀ a xs,H a=My (.lst xs)->H' a=My (.lst xs))(hd:∀ a u,Rd H a u->Rd H' a u){v:V}{d:Dt}(h:Is K H v d):Is K H' v d :=
 Is.rec (motive_1:=λ v d _=>Is K H' v d) (motive_2:=λ v d _=>Iss K H' v d) .non .bl .int .str .ty .opq (λ h=>.dct (hd _ _ h)) (λ h _ i=>.tup (ht _ _ h) i) (λ h _ i=>.lst (hl _ _ h) i) .nil (λ _ _ i j=>.cons i j) h
theorem Iss.mono (ht:∀ a xs,SqT K H a xs->SqT K H' a xs)(hl:∀ a xs,H a=My (.lst xs)->H' a=My (.lst xs))(hd:∀ a u,Rd H a u->Rd H' a u){v:List V}{d:List Dt}(h:Iss K H v d):Iss K H' v d :=
 Iss.rec (motive_1:=λ v d _=>Is K H' v d) (motive_2:=λ v d _=>Iss K H' v d) .non .bl .int .str .ty .opq (λ h=>.dct (hd _ _ h)) (λ h _ i=>.tup (ht _ _ h) i) (λ h _ i=>.lst (hl _ _ h) i) .nil (λ _ _ i j=>.cons i j) h
theorem gY.tI {a:Addr}{xs:List V}(e:gY H H')(h:SqT K H a xs):SqT K H' a xs:=by
 rcases h with (h | ⟨o,h⟩) | h
 ·exact .inl (.inl (e _ _ h))
 ·exact .inl (.inr ⟨o,e _ _ h⟩)
 ·exact .inr h
theorem gY.rd {a:Addr}{u:HO}(e:gY H H')(h:Rd H a u):Rd H' a u:=h.elim (λ h=>.inl (e _ _ h)) λ⟨o,h⟩=>.inr ⟨o,e _ _ h⟩
theorem Is.ext (e:gY H H'){v:V}{d:Dt}(h:Is K H v d):Is K H' v d:=h.mono (λ _ _=>e.tI) (λ _ _ h=>e _ _ h) (λ _ _=>e.rd)
theorem Iss.ext (e:gY H H'){v:List V}{d:List Dt}(h:Iss K H v d):Iss K H' v d:=h.mono (λ _ _=>e.tI) (λ _ _ h=>e _ _ h) (λ _ _=>e.rd)
theorem gY.upd {p:Addr}{o:HO}(h:H p=Rl):gY H (upd H p o):=λ b u e=>by rw[g9 (ik e h)];exact e
structure j_ (H H':Hp):Prop where
 o_:∀ b xs,H b=My (.tup xs)->H' b=My (.tup xs)
 pf:∀ b o u,H b=My (.frz o u)->H' b=My (.frz o u)
theorem j_.refl:j_ H H:=⟨λ _ _ h=>h,λ _ _ _ h=>h⟩
theorem j_.trans {H1 H2:Hp}(a:j_ H H1)(b:j_ H1 H2):j_ H H2:=⟨λ c xs h=>b.o_ c xs (a.o_ c xs h),λ c o u h=>b.pf c o u (a.pf c o u h)⟩
theorem gY.text (e:gY H H'):j_ H H':=⟨λ b xs h=>e b _ h,λ b o u h=>e b _ h⟩
theorem j_.upd {p:Addr}{o:HO}(mu:Mut (H p)):j_ H (upd H p o):=⟨λ b xs e=>by
  rw[g9 (λ z=>by subst z;rw[e]at mu;exact mu)];exact e,λ b o u e=>by
  rw[g9 (λ z=>by subst z;rw[e]at mu;exact mu)];exact e⟩
theorem j_.tI {a:Addr}{xs:List V}(e:j_ H H')(h:SqT K H a xs):SqT K H' a xs:=by
 rcases h with (h | ⟨o,h⟩) | h
 ·exact .inl (.inl (e.o_ _ _ h))
 ·exact .inl (.inr ⟨o,e.pf _ _ _ h⟩)
 ·exact .inr h
mutual
inductive Imm:Dt->Prop
 | non:Imm .non
 | bl (b:Bool):Imm (.bl b)
 | int (i:Int):Imm (.int i)
 | str (x:Str):Imm (.str x)
 | ty (n:String):Imm (.ty n)
 | opq (v:V):Imm (.opq v)
 | tup {ds:List Dt}:qt ds->Imm (.tup ds)
inductive qt:List Dt->Prop
 | nil:qt []
 | cons {d:Dt} {ds:List Dt}:Imm d->qt ds->qt (d::ds)
end
theorem Imm.ip {ds:List Dt}(h:Imm (.tup ds)):qt ds:=by cases h;assumption
theorem Imm.lst_inv {ds:List Dt}(h:Imm (.lst ds)):False:=by cases h
theorem Imm.ou {ds:List (Int×Int)}(h:Imm (.dct ds)):False:=by cases h
theorem qt.inv {d:Dt}{ds:List Dt}(h:qt (d::ds)):Imm d/\qt ds:=by cases h;exact⟨by assumption,by assumption⟩
theorem Is.text (e:j_ H H'){v:V}{d:Dt}(h:Is K H v d):Imm d->Is K H' v d :=
 Is.rec (motive_1:=λ v d _=>Imm d->Is K H' v d) (motive_2:=λ v d _=>qt d->Iss K H' v d) (λ _=>.non) (λ b _=>.bl b) (λ b _=>.int b) (λ b _=>.str b) (λ b _=>.ty b) (λ b _=>.opq b) (λ _ m=>m.ou.elim) (λ h _ i m=>.tup (e.tI h) (i m.ip)) (λ _ _ _ m=>m.lst_inv.elim) (λ _=>.nil) (λ _ _ i j m=>.cons (i m.inv.1) (j m.inv.2)) h
theorem Iss.text (e:j_ H H'){v:List V}{d:List Dt}(h:Iss K H v d):qt d->Iss K H' v d :=
 Iss.rec (motive_1:=λ v d _=>Imm d->Is K H' v d) (motive_2:=λ v d _=>qt d->Iss K H' v d) (λ _=>.non) (λ b _=>.bl b) (λ b _=>.int b) (λ b _=>.str b) (λ b _=>.ty b) (λ b _=>.opq b) (λ _ m=>m.ou.elim) (λ h _ i m=>.tup (e.tI h) (i m.ip)) (λ _ _ _ m=>m.lst_inv.elim) (λ _=>.nil) (λ _ _ i j m=>.cons (i m.inv.1) (j m.inv.2)) h
theorem qt.of {ds:List Dt}(h:∀ d∈ds,Imm d):qt ds:=by
 induction ds with
 | nil=>exact .nil
 | cons d r ih=>exact .cons (h d ay) (ih λ x hx=>h x (aw _ hx))
theorem Iss.length {vs:List V}{ds:List Dt}(h:Iss K H vs ds):vs.length=ds.length:=by
 induction ds generalizing vs with
 | nil=>cases h;rfl
 | cons d r ih=>cases h with | cons h1 h2=>simp[ih h2]
theorem Iss.get {vs:List V}{ds:List Dt}(h:Iss K H vs ds){i:Nat}{d:Dt}(e:ds[i]?=My d):∃ v,vs[i]?=My v/\Is K H v d:=by
 induction ds generalizing vs i with
 | nil=>simp at e
 | cons c r ih =>
  cases h with
  | cons h1 h2 =>
   cases i with
   | zero=>simp at e;subst e;exact⟨_,rfl,h1⟩
   | succ i=>obtain⟨v,a,b⟩:=ih h2 (i:=i) (by simpa using e);exact⟨v,by simpa using a,b⟩
theorem Iss.append {vs ws:List V}{ds es:List Dt}(h:Iss K H vs ds)(h':Iss K H ws es):Iss K H (vs++ws) (ds++es):=by
 induction ds generalizing vs with
 | nil=>cases h;exact h'
 | cons d r ih=>cases h with | cons h1 h2=>exact .cons h1 (ih h2)
theorem Iss.snoc {vs:List V}{ds:List Dt}{v:V}{d:Dt}(h:Iss K H vs ds)(h':Is K H v d):Iss K H (vs++[v]) (ds++[d]):=h.append (.cons h' .nil)
theorem Iss.ints {vs:List V}:∀ {ns:List Int},Iss K H vs (ns.map .int)->vs=ns.map V.int:=by
 intro ns h;induction ns generalizing vs with
 | nil=>cases h;rfl
 | cons d r ih=>cases h with | cons h1 h2=>cases h1;rw[ih h2];rfl
theorem Iss.CQ (ns:List Int):Iss K H (ns.map V.int) (ns.map .int):=by
 induction ns with
 | nil=>exact .nil
 | cons d r ih=>exact .cons (.int d) ih
end
abbrev DE:=List (gF Dt)
structure Sat (K:gG)(H:Hp)(σ:St)(δ:DE):Prop where
 len:σ.length=δ.length
 at_:∀ (i:Nat) (d:Dt),δ[i]?=My (My d)->∃ v,σ[i]?=My (My v)/\Is K H v d
section
variable {K:gG}{H H':Hp}{σ:St}{δ:DE}
theorem Sat.ext (e:gY H H')(h:Sat K H σ δ):Sat K H' σ δ:=⟨h.len,λ i d q=>let ⟨v,a,b⟩:=h.at_ i d q;⟨v,a,b.ext e⟩⟩
theorem Sat.set {i:Nat}{v:V}{d:Dt}(h:Sat K H σ δ)(q:Is K H v d):Sat K H (σ.set i (My v)) (δ.set i (My d)):=by
 refine⟨by simp[h.len],λ j e hj=>?_⟩;by_cases hij:i=j
 ·subst hij
  by_cases hi:i<δ.length
  ·rw[cv hi]at hj;cases hj;exact⟨v,by rw[cv (by rw[h.len];exact hi)],q⟩
  ·rw[bV (by simp;lia)]at hj;cases hj
 ·rw[cb hij]at hj;rw[cb hij];exact h.at_ j e hj
theorem Sat.comp {own:List Str}{ix:List Nat}(h:Sat K H σ δ):Sat K H (jQ own ix σ) (own.map (λ _=>Rl)++ix.map λ i=>(δ[i]?).getD Rl):=by
 refine⟨by simp[jQ],λ j e hj=>?_⟩;have hl:own.length<=j:=by
  refine fc λ hlt=>?_;rw[bL (by simpa using hlt),aJ]at hj;cases q:own[j]? with
  | none=>rw[q]at hj;cases hj
  | some a=>rw[q]at hj;cases hj
 unfold jQ;rw[bH (by simpa using hl),aJ,ah]at hj ⊢;cases q:ix[j-own.length]? with
 | none=>rw[q]at hj;cases hj
 | some i =>
  rw[q]at hj;have hj:(δ[i]?).getD Rl=My e:=ak hj;have:δ[i]?=My (My e):=by
   cases r:δ[i]? with
   | none=>rw[r]at hj;cases hj
   | some w=>rw[r]at hj;exact cK My hj
  obtain⟨v,a,b⟩:=h.at_ i e this;exact⟨v,by rw[fv,a];rfl,b⟩
theorem Iss.start {N:List Str}{vs:List V}{ds:List Dt}(h:Iss K H vs ds):Sat K H (start N vs) (ds.map My++Rp (N.length-ds.length) Rl):=by
 refine⟨by simp[L2.start,h.length],λ j e hj=>?_⟩;unfold L2.start;by_cases hlt:j<ds.length
 ·rw[bL (by simpa using hlt),aJ]at hj
  obtain⟨v,a,b⟩:=h.get (i:=j) (d:=e) (by
   cases q:ds[j]? with
   | none=>rw[q]at hj;cases hj
   | some w=>rw[q]at hj;cases hj;rfl)
  exact⟨v,by rw[bL (by rw[ah,h.length];exact hlt),aJ,a];rfl,b⟩
 ·rw[bH (by simpa using fc hlt),List.getElem?_replicate]at hj;split at hj<;>cases hj
end
def tD (K:gG)(g:DE->gF Dt):TE:=λ σ H Q=>∃ δ d,Sat K H σ δ/\g δ=My d/\∀ v H',gY H H'->Is K H' v d->Q v H'
def tDT (K:gG)(g:DE->gF Bool):TT:=λ σ H Q=>∃ δ b,Sat K H σ δ/\g δ=My b/\∀ H',gY H H'->Q b H'
def tDs (K:gG)(g:DE->gF (List Dt)):TA:=λ σ H Q=>∃ δ ds,Sat K H σ δ/\g δ=My ds/\∀ vs H',gY H H'->Iss K H' vs ds->Q vs H'
def rD (K:gG)(f:Dt->Dt->gF Dt):R2:=λ x y H Q=>∃ dx dy d,Is K H x dx/\Is K H y dy/\f dx dy=My d/\∀ v H',gY H H'->Is K H' v d->Q v H'
def cD (K:gG)(f:List Dt->gF Dt):List V->Hp->VK->Prop:=λ xs H Q=>∃ ds d,Iss K H xs ds/\f ds=My d/\∀ v H',gY H H'->Is K H' v d->Q v H'
def spD (K:gG)(n:Nat)(f:List Dt->gF Dt):Sp:=λ xs H Q _=>∃ ds d,ds.length=n/\Iss K H xs ds/\f ds=My d/\∀ v H',gY H H'->Is K H' v d->Q v H'
def gS (i:Nat):DE->gF Dt:=λ δ=>(δ[i]?).join
def gC (d:Dt):DE->gF Dt:=λ _=>My d
def hU (f:Dt->Dt->gF Dt)(a b:DE->gF Dt):DE->gF Dt:=λ δ=>(a δ).bind λ x=>(b δ).bind λ y=>f x y
def gR:DE->gF (List Dt):=λ _=>My []
section
variable {X:Cx}{e a b c:Expr}{es:List Expr}{pos:Pos}
theorem PE.of {t t':TE}(h:PE X e t)(w:∀ σ H Q,t' σ H Q->t σ H Q):PE X e t':=λ pins s σ H Q I q=>h pins s σ H Q I (w σ H Q q)
theorem PT.of {t t':TT}(h:PT X e t)(w:∀ σ H Q,t' σ H Q->t σ H Q):PT X e t':=λ pins s σ H Q I q=>h pins s σ H Q I (w σ H Q q)
theorem PW.of {t t':TT}(h:PW X e t)(w:∀ σ H Q,t' σ H Q->t σ H Q):PW X e t':=λ wh pins s σ H Q I q=>h wh pins s σ H Q I (w σ H Q q)
theorem PA.of {t t':TA}(h:PA X es t)(w:∀ σ H Q,t' σ H Q->t σ H Q):PA X es t':=λ p pins s σ H Q I q=>h p pins s σ H Q I (w σ H Q q)
theorem PS.of {st:Stmt}{t t':TS}(h:PS X st t)(w:∀ D σ H,t' D σ H->t D σ H):PS X st t':=λ pins s σ H D I q=>h pins s σ H D I (w D σ H q)
theorem PSs.of {st:List Stmt}{t t':TS}(h:PSs X st t)(w:∀ D σ H,t' D σ H->t D σ H):PSs X st t':=λ pins s σ H D I q=>h pins s σ H D I (w D σ H q)
abbrev PD (X:Cx)(e:Expr)(g:DE->gF Dt):Prop:=PE X e (tD X.K g)
abbrev PDT (X:Cx)(e:Expr)(g:DE->gF Bool):Prop:=PT X e (tDT X.K g)
abbrev PDW (X:Cx)(e:Expr)(g:DE->gF Bool):Prop:=PW X e (tDT X.K g)
abbrev PDs (X:Cx)(es:List Expr)(g:DE->gF (List Dt)):Prop:=PA X es (tDs X.K g)
theorem Fj {i:Nat}{δ:DE}{d:Dt}(h:gS i δ=My d):δ[i]?=My (My d):=by
 unfold gS at h;cases q:δ[i]? with
 | none=>rw[q]at h;cases h
 | some w=>rw[q]at h;exact cK My h
theorem dv (i:Nat){x:Str}(hN:X.N[i]?=My x:=by rfl)(hv:Vis X.env.scope x:=by trivial)(hd:(x==("__debug__":Str))=Rn:=by decide)
  (hcd:(x==("__classdict__":Str))=Rn:=by decide):PD X (.Name x pos) (gS i) :=
 (Ey hN hv hd hcd).of λ σ H Q hz1=>by obtain⟨δ,d,S,e,q⟩:=hz1;obtain⟨v,h1,h2⟩:=S.at_ i d (Fj e);exact⟨v,h1,q v H (gY.refl H) h2⟩
theorem ie {i:Int}{j}:PD X (.Constant (.int i) j pos) (gC (.int i)):=hJ.of λ σ H Q ⟨δ,d,S,e,q⟩=>by cases e;exact q _ H (gY.refl H) (.int i)
theorem m_ {i:Bool}{j}:PD X (.Constant (.bool i) j pos) (gC (.bl i)):=tZ.of λ σ H Q ⟨δ,d,S,e,q⟩=>by cases e;exact q _ H (gY.refl H) (.bl i)
theorem Nm {j}:PD X (.Constant .none j pos) (gC .non):=qK.of λ σ H Q ⟨δ,d,S,e,q⟩=>by cases e;exact q _ H (gY.refl H) .non
theorem rK {x:Str}{j}:PD X (.Constant (.str x) j pos) (gC (.str x)):=yp.of λ σ H Q ⟨δ,d,S,e,q⟩=>by cases e;exact q _ H (gY.refl H) (.str x)
theorem Lr {x:Str}{u:gH}{v:V}{d:Dt}(hm:X.mg x=My u)(r:RelV v u)(hI:∀ H,Is X.K H v d)(hg:Gl X x:=by rfl)(hd:(x==("__debug__":Str))=Rn:=by decide):PD X (.Name x pos) (gC d) :=
 (Cn hg hm r hd).of λ σ H Q ⟨δ,d',S,e,q⟩=>by cases e;exact q _ H (gY.refl H) (hI H)
theorem tJ {x:Str}{T:String}(hm:X.mg x=Rl)(hv:bootBuiltins x=My (.type T))(hg:Gl X x:=by rfl)(hn:x≠"__name__":=by decide)(hd:(x==("__debug__":Str))=Rn:=by decide):PD X (.Name x pos) (gC (.ty T)) :=
 (Co (v:=.ty T) hg hm hv rfl hn hd).of λ σ H Q ⟨δ,d',S,e,q⟩=>by cases e;exact q _ H (gY.refl H) (.ty T)
theorem rL {f:Dt->Dt->gF Dt}{ga gb:DE->gF Dt}{δ:DE}{d:Dt}(h:hU f ga gb δ=My d):∃ x y,ga δ=My x/\gb δ=My y/\f x y=My d:=by
 unfold hU at h;cases p:ga δ with
 | none=>rw[p]at h;cases h
 | some x =>
  rw[p]at h;cases q:gb δ with
  | none=>rw[aB,q]at h;cases h
  | some y=>rw[aB,q,aB]at h;exact⟨x,y,rfl,rfl,h⟩
theorem yL {K:gG}{f:Dt->Dt->gF Dt}{ga gb:DE->gF Dt}(σ:St)(H:Hp)(Q:VK)(h:tD K (hU f ga gb) σ H Q):tOp (rD K f) (tD K ga) (tD K gb) σ H Q:=by obtain⟨δ,d,S,e,q⟩:=h;obtain⟨x,y,e1,e2,e3⟩:=rL e;refine⟨δ,x,S,e1,λ v H1 s1 i1=>⟨δ,y,S.ext s1,e2,λ w H2 s2 i2=>⟨x,y,d,i1.ext s2,i2,e3,λ u H3 s3 i3=>q u H3 ((s1.trans s2).trans s3) i3⟩⟩⟩
theorem jR {op:Operator}{f:Dt->Dt->gF Dt}{ga gb:DE->gF Dt}(ho:OpR X (binaryOp op) (rD X.K f))(ha:PD X a ga)(hb:PD X b gb):PD X (.BinOp a op b pos) (hU f ga gb):=(jv ho ha hb).of yL
theorem vG {op:CmpOp}{f:Dt->Dt->gF Dt}{ga gb:DE->gF Dt}(ho:OpR X (compareOp op) (rD X.K f))(ha:PD X a ga)(hb:PD X b gb)(hm:behindInMarks op b=Rn:=by first | exact s_ _ | with_unfolding_all rfl):PD X (.Compare a [op] [b] pos) (hU f ga gb):=(HC ho ha hb hm).of yL
def asB:Dt->gF Bool
 | .bl b=>My b
 | _=>Rl
theorem rM {d:Dt}{b:Bool}(h:asB d=My b):d=.bl b:=by cases d<;>simp[asB]at h;rw[h]
def gB (g:DE->gF Dt):DE->gF Bool:=λ δ=>(g δ).bind asB
theorem BN {g:DE->gF Dt}{δ:DE}{b:Bool}(h:gB g δ=My b):g δ=My (.bl b):=by
 unfold gB at h;cases p:g δ with
 | none=>rw[p]at h;cases h
 | some x=>rw[p]at h;rw[rM h]
theorem Is.jk {K:gG}{H:Hp}{v:V}{b:Bool}(h:Is K H v (.bl b)):v=.bl b:=by cases h;rfl
theorem Is.int_inv {K:gG}{H:Hp}{v:V}{b:Int}(h:Is K H v (.int b)):v=.int b:=by cases h;rfl
theorem Is.str_inv {K:gG}{H:Hp}{v:V}{b:Str}(h:Is K H v (.str b)):v=.str b:=by cases h;rfl
theorem Is.qf {K:gG}{H:Hp}{v:V}{b:V}(h:Is K H v (.opq b)):v=b:=by cases h;rfl
theorem Is.BO {K:gG}{H:Hp}{v:V}{b:String}(h:Is K H v (.ty b)):v=.ty b:=by cases h;rfl
theorem Is.ow {K:gG}{H:Hp}{v:V}(h:Is K H v .non):v=.non:=by cases h;rfl
theorem Is.ip {K:gG}{H:Hp}{v:V}{ds:List Dt}(h:Is K H v (.tup ds)):∃ a xs,v=.ref a/\SqT K H a xs/\Iss K H xs ds:=by cases h;exact⟨_,_,rfl,by assumption,by assumption⟩
theorem Is.ou {K:gG}{H:Hp}{v:V}{ds:List (Int×Int)}(h:Is K H v (.dct ds)):∃ a,v=.ref a/\Rd H a (.dK (kvD ds)):=by cases h;exact⟨_,rfl,by assumption⟩
theorem Is.lst_inv {K:gG}{H:Hp}{v:V}{ds:List Dt}(h:Is K H v (.lst ds)):∃ a xs,v=.ref a/\H a=My (.lst xs)/\Iss K H xs ds:=by cases h;exact⟨_,_,rfl,by assumption,by assumption⟩
theorem Ke {K:gG}{g:DE->gF Dt}(σ:St)(H:Hp)(Q:Bool->Hp->Prop)(h:tDT K (gB g) σ H Q):tD K g σ H λ x H'=>∃ k,x=.bl k/\Q k H':=by obtain⟨δ,b,S,e,q⟩:=h;exact⟨δ,_,S,BN e,λ v H1 s1 i1=>⟨b,i1.jk,q H1 s1⟩⟩
theorem jn {op:CmpOp}{f:Dt->Dt->gF Dt}{ga gb:DE->gF Dt}(ho:OpR X (compareOp op) (rD X.K f))(ha:PD X a ga)(hb:PD X b gb)(hm:behindInMarks op b=Rn:=by first | exact s_ _ | with_unfolding_all rfl):PDT X (.Compare a [op] [b] pos) (gB (hU f ga gb)) :=
 (rz ho ha hb hm).of λ σ H Q h=>yL σ H _ (Ke σ H Q h)
def pK (f f':Dt->Dt->gF Dt)(ga gb gc:DE->gF Dt):DE->gF Dt:=λ δ=>(ga δ).bind λ x=>(gb δ).bind λ y=>(f x y).bind λ z=>(asB z).bind λ k=>if k=Rm then (gc δ).bind λ w=>f' y w else My (.bl Rn)
theorem gQ {α β:Type}{o:gF α}{f:α->gF β}{b:β}(h:o.bind f=My b):∃ a,o=My a/\f a=My b:=by
 cases o with
 | none=>cases h
 | some a=>exact⟨a,rfl,h⟩
theorem Af {K:gG}{f f':Dt->Dt->gF Dt}{ga gb gc:DE->gF Dt}(σ:St)(H:Hp)(Q:VK)(h:tD K (pK f f' ga gb gc) σ H Q):Bm (rD K f) (rD K f') (tD K ga) (tD K gb) (tD K gc) σ H Q:=by
 obtain⟨δ,d,S,e,q⟩:=h;obtain⟨x,e1,e⟩:=gQ e;obtain⟨y,e2,e⟩:=gQ e;obtain⟨z,e3,e⟩:=gQ e;obtain⟨k,e4,e⟩:=gQ e;have e4:=rM e4;subst e4;refine⟨δ,x,S,e1,λ v H1 s1 i1=>⟨δ,y,S.ext s1,e2,λ w H2 s2 i2=>⟨x,y,_,i1.ext s2,i2,e3,λ u H3 s3 i3=>⟨k,i3.jk,?_⟩⟩⟩⟩;cases k with
 | true =>obtain⟨w',e5,e6⟩:=gQ (show(gc δ).bind _=_ from e);rw[ai rfl];exact⟨δ,w',S.ext ((s1.trans s2).trans s3),e5,λ u' H4 s4 i4=>⟨y,w',d,(i2.ext s3).ext s4,i4,e6,λ u5 H5 s5 i5=>q u5 H5 ((((s1.trans s2).trans s3).trans s4).trans s5) i5⟩⟩
 | false =>rw[aq au];cases (show My (Dt.bl Rn)=My d from e);exact q _ H3 ((s1.trans s2).trans s3) (.bl Rn)
theorem HZ {op op':CmpOp}{f f':Dt->Dt->gF Dt}{ga gb gc:DE->gF Dt}(ho:OpR X (compareOp op) (rD X.K f))(ho':OpR X (compareOp op') (rD X.K f'))(ha:PD X a ga)(hb:PD X b gb)(hc:PD X c gc)
  (hm:lastMarks [op,op'] [b,c]=Rn:=by with_unfolding_all rfl):PD X (.Compare a [op,op'] [b,c] pos) (pK f f' ga gb gc):=(EH ho ho' ha hb hc hm).of Af
theorem vH {op op':CmpOp}{f f':Dt->Dt->gF Dt}{ga gb gc:DE->gF Dt}(ho:OpR X (compareOp op) (rD X.K f))(ho':OpR X (compareOp op') (rD X.K f'))(ha:PD X a ga)(hb:PD X b gb)(hc:PD X c gc)
  (hm:lastMarks [op,op'] [b,c]=Rn:=by with_unfolding_all rfl):PDT X (.Compare a [op,op'] [b,c] pos) (gB (pK f f' ga gb gc)):=(EI ho ho' ha hb hc hm).of λ σ H Q h=>Af σ H _ (Ke σ H Q h)
def yM (ga gb:DE->gF Dt):DE->gF Dt:=λ δ=>(gB ga δ).bind λ k=>if k=Rm then gb δ else My (.bl Rn)
def Ls (ga:DE->gF Dt):DE->gF Dt:=λ δ=>(gB ga δ).map λ k=>.bl (!k)
theorem vI {op}{g:DE->gF Dt}(h:PD X a g):PD X (.BoolOp op [a] pos) g:=KR h
theorem ug {rest:List Expr}{ga gb:DE->gF Dt}(ha:PD X a ga)(hb:PD X (.BoolOp .And (b::rest) pos) gb):PD X (.BoolOp .And (a::b::rest) pos) (yM ga gb) :=
 (KS ha hb).of λ σ H Q hz2=>by
  obtain⟨δ,d,S,e,q⟩:=hz2;obtain⟨k,e1,e⟩:=gQ e;refine⟨δ,_,S,BN e1,λ v H1 s1 i1=>⟨k,i1.jk,?_⟩⟩;cases k with
  | true=>rw[ai rfl]at e ⊢;exact⟨δ,d,S.ext s1,e,λ u H2 s2 i2=>q u H2 (s1.trans s2) i2⟩
  | false=>rw[aq au]at e ⊢;cases e;exact q _ H1 s1 (.bl Rn)
theorem ir {α β:Type}{o:gF α}{f:α->β}{b:β}(h:o.map f=My b):∃ a,o=My a/\f a=b:=by
 cases o with
 | none=>cases h
 | some a=>exact⟨a,rfl,ak h⟩
theorem Kf {ga:DE->gF Dt}(ha:PD X a ga):PD X (.UnaryOp .Not a pos) (Ls ga) :=
 (KU ha).of λ σ H Q hz4=>by obtain⟨δ,d,S,e,q⟩:=hz4;obtain⟨k,e1,e⟩:=ir e;subst e;exact⟨δ,_,S,BN e1,λ v H1 s1 i1=>⟨k,i1.jk,q _ H1 s1 (.bl _)⟩⟩
def Fl (ga gb:DE->gF Bool):DE->gF Bool:=λ δ=>(ga δ).bind λ k=>if k=Rm then gb δ else My Rn
def nK (ga gb:DE->gF Bool):DE->gF Bool:=λ δ=>(ga δ).bind λ k=>if k=Rm then My Rm else gb δ
def j9 (ga:DE->gF Bool):DE->gF Bool:=λ δ=>(ga δ).map (!·)
theorem jD {ga:DE->gF Bool}(ha:PDT X a ga):PDT X (.UnaryOp .Not a pos) (j9 ga) :=
 (Bf ha).of λ σ H Q hz5=>by obtain⟨δ,d,S,e,q⟩:=hz5;obtain⟨k,e1,e⟩:=ir e;subst e;exact⟨δ,_,S,e1,λ H1 s1=>q H1 s1⟩
theorem H_ {ga:DE->gF Bool}(ha:PDT X a ga):PDW X (.BoolOp .And [a] pos) ga:=Hx ha
theorem mh {ga:DE->gF Bool}(ha:PDT X a ga):PDW X (.BoolOp .Or [a] pos) ga:=yq ha
theorem Lu {rest:List Expr}{ga gb:DE->gF Bool}(ha:PDT X a ga)(hb:PDW X (.BoolOp .And (b::rest) pos) gb):PDW X (.BoolOp .And (a::b::rest) pos) (Fl ga gb) :=
 (KQ ha hb).of λ σ H Q hz6=>by
  obtain⟨δ,d,S,e,q⟩:=hz6;obtain⟨k,e1,e⟩:=gQ e;refine⟨δ,_,S,e1,λ H1 s1=>?_⟩;cases k with
  | true=>rw[ai rfl]at e ⊢;exact⟨δ,d,S.ext s1,e,λ H2 s2=>q H2 (s1.trans s2)⟩
  | false=>rw[aq au]at e ⊢;cases e;exact q H1 s1
theorem mr {rest:List Expr}{ga gb:DE->gF Bool}(ha:PDT X a ga)(hb:PDW X (.BoolOp .Or (b::rest) pos) gb):PDW X (.BoolOp .Or (a::b::rest) pos) (nK ga gb) :=
 (Cp ha hb).of λ σ H Q hz7=>by
  obtain⟨δ,d,S,e,q⟩:=hz7;obtain⟨k,e1,e⟩:=gQ e;refine⟨δ,_,S,e1,λ H1 s1=>?_⟩;cases k with
  | false=>rw[aq au]at e ⊢;exact⟨δ,d,S.ext s1,e,λ H2 s2=>q H2 (s1.trans s2)⟩
  | true=>rw[ai rfl]at e ⊢;cases e;exact q H1 s1
theorem tK {ga:DE->gF Bool}(h:PDW X a ga):PDT X a ga:=h.pt
def gIf (gc:DE->gF Bool)(ga gb:DE->gF Dt):DE->gF Dt:=λ δ=>(gc δ).bind λ k=>if k=Rm then ga δ else gb δ
theorem Pw {gc:DE->gF Bool}{ga gb:DE->gF Dt}(hc:PDT X c gc)(ha:PD X a ga)(hb:PD X b gb):PD X (.IfExp c a b pos) (gIf gc ga gb) :=
 (zL hc ha hb).of λ σ H Q hz8=>by
  obtain⟨δ,d,S,e,q⟩:=hz8;obtain⟨k,e1,e⟩:=gQ e;refine⟨δ,_,S,e1,λ H1 s1=>?_⟩;cases k with
  | true=>rw[ai rfl]at e ⊢;exact⟨δ,d,S.ext s1,e,λ u H2 s2 i2=>q u H2 (s1.trans s2) i2⟩
  | false=>rw[aq au]at e ⊢;exact⟨δ,d,S.ext s1,e,λ u H2 s2 i2=>q u H2 (s1.trans s2) i2⟩
def DK:Dt->gF Bool
 | .non=>My Rn
 | .bl b=>My b
 | .int i=>My (i != 0)
 | .str x=>if x.length<=1000 then My ((x.length:Int) != 0) else Rl
 | .ty _=>Rl
 | .opq _=>Rl
 | .dct _=>Rl
 | .tup ds=>My (!ds.isEmpty)
 | .lst ds=>My (!ds.isEmpty)
theorem qg {n:Nat}(h:n<=1000):n<=sizeLine:=by rw[sizeLine_eq];lia
theorem Iss.isEmpty {K:gG}{H:Hp}{vs:List V}{ds:List Dt}(h:Iss K H vs ds):vs.isEmpty=ds.isEmpty:=by cases h<;>rfl
set_option tactic.hygienic true in
theorem Ia {K:gG}{H:Hp}{v:V}{d:Dt}{k:Bool}(h:Is K H v d)(e:DK d=My k):HD K v H k:=by
 cases h with
 | non=>cases e;rfl
 | bl b=>cases e;rfl
 | int b=>cases e;rfl
 | ty n=>cases e
 | opq n=>cases e
 | dct h=>cases e
 | str x =>
  have e:(if x.length<=1000 then My ((x.length:Int) != 0) else Rl)=My k:=e;split at e
  ·rename_i h;cases e;exact⟨qg h,rfl⟩
  ·cases e
 | tup h1 h2=>cases e;exact .inr (.inl ⟨_,h1,by rw[h2.isEmpty]⟩)
 | lst h1 h2=>cases e;exact .inl ⟨_,SqL.of h1,by rw[h2.isEmpty]⟩
def gTr (g:DE->gF Dt):DE->gF Bool:=λ δ=>(g δ).bind DK
theorem j7 {g:DE->gF Dt}(h:PD X e g)(he:∀ whole,isTrue e X.env whole=(do let v<-whole;standAt e.pos;holding [v] (truthy v)):=by intro _;rfl):PDT X e (gTr g) :=
 (zQ h he).of λ σ H Q hz9=>by obtain⟨δ,d,S,e,q⟩:=hz9;obtain⟨x,e1,e2⟩:=gQ e;exact⟨δ,x,S,e1,λ v H1 s1 i1=>⟨d,Ia i1 e2,q H1 s1⟩⟩
def gN (g:DE->gF Dt)(gs:DE->gF (List Dt)):DE->gF (List Dt):=λ δ=>(g δ).bind λ x=>(gs δ).map λ r=>x::r
theorem gT:PDs X [] gR:=g_.of λ σ H Q ⟨δ,d,S,e,q⟩=>by cases e;exact q [] H (gY.refl H) .nil
theorem gM {g:DE->gF Dt}{gs:DE->gF (List Dt)}(ha:PD X e g)(hr:PDs X es gs)(hs:starEach (e::es) X.env=(Rn,eval e X.env)::starEach es X.env:=by rfl):PDs X (e::es) (gN g gs) :=
 (gP ha hr hs).of λ σ H Q hz10=>by obtain⟨δ,d,S,e,q⟩:=hz10;obtain⟨x,e1,e⟩:=gQ e;obtain⟨r,e2,e⟩:=ir e;subst e;exact⟨δ,x,S,e1,λ v H1 s1 i1=>⟨δ,r,S.ext s1,e2,λ vs H2 s2 i2=>q (v::vs) H2 (s1.trans s2) (.cons (i1.ext s2) i2)⟩⟩
def i9 (gs:DE->gF (List Dt)):DE->gF Dt:=λ δ=>(gs δ).bind λ ds=>if ds.length<=1000 then My (.tup ds) else Rl
def lz (gs:DE->gF (List Dt)):DE->gF Dt:=λ δ=>(gs δ).bind λ ds=>if ds.length<=1000 then My (.lst ds) else Rl
set_option tactic.hygienic true in
theorem jc {gs:DE->gF (List Dt)}{x1}(h:PDs X es gs):PD X (.Tuple es x1 pos) (i9 gs) :=
 (mf h).of λ σ H Q hz11=>by
  obtain⟨δ,d,S,e,q⟩:=hz11;obtain⟨ds,e1,e⟩:=gQ e;split at e
  ·cases e;rename_i hl;exact⟨δ,ds,S,e1,λ vs H1 s1 i1=>⟨qg (by rw[i1.length];exact hl),λ p hp=>q _ _ (s1.trans (gY.upd hp)) (.tup (SqT.of gW) (i1.ext (gY.upd hp)))⟩⟩
  ·cases e
set_option tactic.hygienic true in
theorem mv {gs:DE->gF (List Dt)}(h:PDs X es gs):PD X (.List es pos) (lz gs) :=
 (jP h).of λ σ H Q hz12=>by
  obtain⟨δ,d,S,e,q⟩:=hz12;obtain⟨ds,e1,e⟩:=gQ e;split at e
  ·cases e;rename_i hl;exact⟨δ,ds,S,e1,λ vs H1 s1 i1=>⟨qg (by rw[i1.length];exact hl),λ p hp=>q _ _ (s1.trans (gY.upd hp)) (.lst gW (i1.ext (gY.upd hp)))⟩⟩
  ·cases e
def iU (f:List Dt->gF Dt)(gs:DE->gF (List Dt)):DE->gF Dt:=λ δ=>(gs δ).bind f
theorem Kg {K:gG}{f:List Dt->gF Dt}{gs:DE->gF (List Dt)}(σ:St)(H:Hp)(Q:VK)(h:tD K (iU f gs) σ H Q):tCB (cD K f) (tDs K gs) σ H Q:=by obtain⟨δ,d,S,e,q⟩:=h;obtain⟨ds,e1,e2⟩:=gQ e;exact⟨δ,ds,S,e1,λ vs H1 s1 i1=>⟨ds,d,i1,e2,λ v H2 s2 i2=>q v H2 (s1.trans s2) i2⟩⟩
theorem iG {x:Str}{p:Pos}{id:String}{f:List Dt->gF Dt}{gs:DE->gF (List Dt)}(hc:jq X (.builtin id) (cD X.K f))(hm:X.mg x=Rl)(hv:bootBuiltins x=My (.builtin id))(ha:PDs X (e::es) gs)(hg:Gl X x:=by rfl)(hn:x≠"__name__":=by decide)(hdb:(x==("__debug__":Str))=Rn:=by decide)
  (he:starEach (e::es) X.env=(Rn,eval e X.env)::starEach es X.env:=by rfl) (hpl:(backTo pos (starEach es X.env)).any (·.1)=Rn:=by rfl):PD X (.Call (.Name x p) (e::es) [] pos) (iU f gs):=(jH hc hg hm hv ha hn hdb he hpl).of Kg
theorem mU {x:Str}{p:Pos}{T:String}{f:List Dt->gF Dt}{gs:DE->gF (List Dt)}(hc:jq X (.type T) (cD X.K f))(hm:X.mg x=Rl)(hv:bootBuiltins x=My (.type T))(ha:PDs X (e::es) gs)(hg:Gl X x:=by rfl)(hn:x≠"__name__":=by decide)(hdb:(x==("__debug__":Str))=Rn:=by decide)
  (he:starEach (e::es) X.env=(Rn,eval e X.env)::starEach es X.env:=by rfl) (hpl:(backTo pos (starEach es X.env)).any (·.1)=Rn:=by rfl):PD X (.Call (.Name x p) (e::es) [] pos) (iU f gs):=(kX hc hg hm hv ha hn hdb he hpl).of Kg
def iq (n:Nat)(f:List Dt->gF Dt)(gs:DE->gF (List Dt)):DE->gF Dt:=λ δ=>(gs δ).bind λ ds=>if ds.length=n then f ds else Rl
set_option tactic.hygienic true in
theorem Lv {x:Str}{p:Pos}{k n:Nat}{f:Addr}{fd:FuncData}{ps:List Str}{fD:List Dt->gF Dt}{gs:DE->gF (List Dt)}(F:pE X.prog X.w X.K X.mg X.base CX0 k f fd ps (spD X.K n fD))(hr:jt k X.A)(hm:X.mg x=My (.ref f))(hk:PySem.W.keepIn X.K (.ref f)=Rm)(hb:Binds X.K fd ps [])
  (ha:PDs X (e::es) gs) (hg:Gl X x:=by rfl) (hdb:(x==("__debug__":Str))=Rn:=by decide) (he:starEach (e::es) X.env=(Rn,eval e X.env)::starEach es X.env:=by rfl) (hpl:(backTo pos (starEach es X.env)).any (·.1)=Rn:=by rfl) :
  PD X (.Call (.Name x p) (e::es) [] pos) (iq n fD gs) :=
 (uL F hr hg hm hk hb .nil Ka ha hdb he hpl).of λ σ H Q hz13=>by
  obtain⟨δ,d,S,e,q⟩:=hz13;obtain⟨ds,e1,e2⟩:=gQ e;split at e2
  ·rename_i hl;exact⟨δ,ds,S,e1,λ vs H1 s1 i1=>by show spD X.K n fD (vs++[]) H1 Q E0;rw[bt];exact⟨ds,d,hl,i1,e2,λ v H2 s2 i2=>q v H2 (s1.trans s2) i2⟩⟩
  ·cases e2
end
end L2
namespace Zp
open PySem PySem.Spec PyProof.Rows
section
variable {prog:Program}{w:World}{A:Around}{E:gE}{s:gJ}
theorem Ib {j t:Addr}{k:Nat}{arr:Array gH}{y:gH}{Q:gE}(hj:s.heap.IsTupleIter j t k)(ht:s.heap.IsTuple t arr)(hy:arr[k]?=My y)
  (fin:∀ g,g.IsTupleIter j t (k+1)->Heap.SameBut j s.heap g->Q y {s with heap:=g}):wpAny (model prog w) A (Builtin.SmallTypes.nextOf (.ref j)) Q E s:=by
 have hty:=hj.typeIs;obtain⟨oj,gj,cj,dj⟩:=hj;obtain⟨ot,gt,_,nt,dt⟩:=ht;unfold Builtin.SmallTypes.nextOf;refine ae (bJ (name:=Str.ofString "__next__") hty cY (bY cY hty F.entry_tuple_iterator_next ?_ (F.args_tuple_iterator_next_1 _)));show wpAny _ _ (field (.ref j) 0>>=_) _ _ s;refine ae (bU gj dj (x:=.ref t) rfl ?_);show wpAny _ _ (if (Value.ref t==Value.none)=Rm then _ else _) _ _ s;rw[aq (show ¬ (Value.ref t==Value.none)=Rm from λ q=>au q)];show wpAny _ _ (field (.ref j) 1>>=_) _ _ s;refine ae (bU gj dj (x:=.int k 0) rfl ?_);show wpAny _ _ (seqItems? (.ref t)>>=_) _ _ s;refine ae (cB gt dt ?_);simp only[hy,bS];refine ae (eT gj dj (by simp) (af ⟨y,rfl,af (fin _ ⟨_,c_ _ gj (e_ (cX dj _)),(fQ ..).trans cj,?_⟩ (cG ..))⟩));rw[cX dj];simp[rawInt]
theorem BP {j t:Addr}{k:Nat}{arr:Array gH}{Q:gE}(hh:A.handled=Rl)(hj:s.heap.IsTupleIter j t k)(ht:s.heap.IsTuple t arr)(hy:arr[k]?=Rl)
  (fin:∀ g e,Heap.ExtBut j s.heap g->(∃ o,g.get? e=My o/\o.cls=.type "StopIteration")->E (.ref e) {s with heap:=g}):wpAny (model prog w) A (Builtin.SmallTypes.nextOf (.ref j)) Q E s:=by
 have hty:=hj.typeIs;obtain⟨oj,gj,cj,dj⟩:=hj;obtain⟨ot,gt,_,nt,dt⟩:=ht;unfold Builtin.SmallTypes.nextOf;refine ae (bJ (name:=Str.ofString "__next__") hty cY (bY cY hty F.entry_tuple_iterator_next ?_ (F.args_tuple_iterator_next_1 _)));show wpAny _ _ (field (.ref j) 0>>=_) _ _ s;refine ae (bU gj dj (x:=.ref t) rfl ?_);show wpAny _ _ (if (Value.ref t==Value.none)=Rm then _ else _) _ _ s;rw[aq (show ¬ (Value.ref t==Value.none)=Rm from λ q=>au q)];show wpAny _ _ (field (.ref j) 1>>=_) _ _ s;refine ae (bU gj dj (x:=.int k 0) rfl ?_);show wpAny _ _ (seqItems? (.ref t)>>=_) _ _ s;refine ae (cB gt dt ?_);simp only[hy,bS];refine ae (wpAny_rule (ae (eT gj dj (by simp) (show wpAny _ _ (newExc (.type "StopIteration") []>>=_) _ _ _ from ae ?_))));simp only[newTuple,newExc];refine ae (bB (ae (m:=firstArgMember _ _) (wpAny_of_eq (a:=Value.none) (by first | rfl | (simp only[firstArgMember];rfl)) (bB ?_ (by size_fits)))) (by size_fits));simp only[raiseNew];refine ae (wpAny_handled ?_);first | rw[hh] | rw[show A.in1.handled=Rl from hh]
 exact ae (af (wpAny_throw (fin _ _ (((cG ..).extBut.push _).push _) ⟨_,aE _ rfl,rfl⟩)))
theorem Fm (hh:A.handled=Rl)(j t:Addr)(ne:t≠j)(arr:Array gH):Draws prog w A j [j,t] arr.size (λ i v=>arr[i]?=My v) (λ i h=>h.IsTupleIter j t i/\h.IsTuple t arr) where
 live:=λ _ _ st=>let ⟨o,ho,_⟩:=st.1;⟨o,ho⟩
 frame:=λ _ _ _ st hk=>⟨let ⟨o,ho,r⟩:=st.1;⟨o,hk j (by simp) o ho,r⟩,let ⟨o,ho,r⟩:=st.2;⟨o,hk t (by simp) o ho,r⟩⟩
 item:=λ i s Q E hi st fin=>Ib st.1 st.2 (y:=arr[i]) (by simp[hi]) λ g a b=>fin _ g s.toks (by simp[hi]) ⟨a,st.2.extBut b.extBut ne⟩ b
 done:=λ s Q E st fin=>BP hh st.1 st.2 (by simp) fin
structure Ap (z T O i j:Addr)(f g:List Addr):Prop where
 Tz:T≠z
 Oz:O≠z
 TO:T≠O
 iz:i≠z
 jz:j≠z
 Ti:T≠i
 Tj:T≠j
 Oi:O≠i
 Oj:O≠j
 ij:i≠j
 zf:z∉f
 zg:z∉g
 Of:O∉f
 Og:O∉g
 jf:j∉f
 ig:i∉g
variable {z T O i j:Addr}{f g:List Addr}{n m:Nat}{P R:Nat->gH->Prop}{S U:Nat->Heap->Prop}
theorem Nn (ap:Ap z T O i j f g)(C:Draws prog w A i f n P S)(D:Draws prog w A j g m R U){k:Nat}{a b:gH}{Q:gE}(hn:k<n)(hm:k<m)
  (hz:IsZip s.heap z T O .none) (hT:IsPair s.heap T (.ref i) (.ref j)) (hO:IsPair s.heap O a b) (h1:S k s.heap) (h2:U k s.heap)
  (fin:∀ h' N tk x y,P k x->R k y->s.heap.objs.size<=N->IsZip h' z T O (rawInt N)->IsPair h' O x y->S (k+1) h'->U (k+1) h'->IsPair h' N x y ->
   (∀ c o,c≠z->c≠O->c≠i->c≠j->s.heap.get? c=My o->h'.get? c=My o)->Q (.ref N) {s with heap:=h',toks:=tk}) :
  wpAny (model prog w) A (Builtin.«zip.__next__» ⟨[.ref z],[]⟩) (λ fn s'=>∃ v,fn=.done (.ret v)/\Q v s') E s:=by
 show wpAny _ _ (field (.ref z) 2>>=_) _ _ _;refine ae (bU hz rfl (x:=.bool Rn) rfl (show wpAny _ _ (field (.ref z) 3>>=_) _ _ _ from ae (bU hz rfl (x:=.ref T) rfl (ae (cB hT rfl ?_)))));show wpAny _ _ (Builtin.SmallTypes.ownedTupleIsFree (.ref z)>>=_) _ _ _;refine ae ?_;unfold Builtin.SmallTypes.ownedTupleIsFree;refine ae (bU hz rfl (x:=.none) rfl (af ?_));simp only[dU];refine ae (wpAny_rule (ae (bU hz rfl (x:=.ref O) rfl (ae (cZ hz (by simp) λ g1 hz1 e1=>?_)))));replace hz1:IsZip g1 z T O .ellipsis:=hz1;refine ae ?_;simp only[List.zipIdx_nil,List.zipIdx_cons,eU,dR];have z1:∀ {c o},c≠z->s.heap.get? c=My o->g1.get? c=My o:=λ hc e=>e1.extBut _ _ hc e;have mem:∀ {c y:Addr} {l:List Addr},y∉l->c∈l->c≠y:=λ hn hm e=>hn (e▸hm);refine ae (ae (fk (show wpAny _ _ (Builtin.SmallTypes.nextOf (.ref i)>>=_) _ _ _ from ae (C.item k _ _ _ hn (C.frame k _ _ h1 λ c hc o e=>z1 (mem ap.zf hc) e) λ x g2 tk2 px s2 e2=>af ?_))));have hO2:IsPair g2 O a b:=e2.extBut _ _ ap.Oi (z1 ap.Oz hO);refine ae (cB hO2 rfl (ae (ft hO2 λ g3 hO3 e3=>?_)));replace hO3:IsPair g3 O x b:=hO3;refine ae (wpAny_letGo (af (ae (ae (fk ?_)))));show wpAny _ _ (Builtin.SmallTypes.nextOf (.ref j)>>=_) _ _ _;refine ae (D.item k _ _ _ hm (D.frame k _ _ h2 λ c hc o e=>e3.extBut _ _ (mem ap.Og hc) (e2.extBut _ _ (mem ap.ig hc) (z1 (mem ap.zg hc) e))) λ y g4 tk4 py s4 e4=>af ?_);have hO4:IsPair g4 O x b:=e4.extBut _ _ ap.Oj hO3;refine ae (cB hO4 rfl (ae (ft hO4 λ g5 hO5 e5=>?_)));replace hO5:IsPair g5 O x y:=hO5;refine ae (wpAny_letGo (af (af (ae (cB hO5 rfl (ae (wpAny_newTuple ?_)))))));have size5:g5.objs.size=s.heap.objs.size:=by rw[e5.1,e4.1,e3.1,e2.1,e1.1]
 have hz5:IsZip g5 z T O .ellipsis:=e5.extBut _ _ ap.Oz.symm (e4.extBut _ _ ap.jz.symm (e3.extBut _ _ ap.Oz.symm (e2.extBut _ _ ap.iz.symm hz1)));have k5:∀ c o,c≠z->c≠O->c≠i->c≠j->s.heap.get? c=My o->g5.get? c=My o:=λ c o q1 q2 q3 q4 e=>e5.extBut _ _ q2 (e4.extBut _ _ q4 (e3.extBut _ _ q2 (e2.extBut _ _ q3 (z1 q1 e))));have s5:S (k+1) g5:=C.frame _ _ _ s2 λ c hc o e=>e5.extBut _ _ (mem ap.Of hc) (e4.extBut _ _ (mem ap.jf hc) (e3.extBut _ _ (mem ap.Of hc) e));have u5:U (k+1) g5:=D.frame _ _ _ s4 λ c hc o e=>e5.extBut _ _ (mem ap.Og hc) e;have zlt:z<g5.objs.size:=av hz5;show wpAny _ _ (Builtin.SmallTypes.ownedTupleHandOut (.ref z) (.ref g5.objs.size)>>=_) _ _ _;refine ae ?_;unfold Builtin.SmallTypes.ownedTupleHandOut;have hz6:IsZip (g5.push {cls:=.type "tuple",data:=.seq #[x,y]}) z T O .ellipsis:=ag _ hz5;refine ae (cZ hz6 (by simp) λ g7 hz7 e7=>?_);replace hz7:IsZip g7 z T O (rawInt g5.objs.size):=hz7;refine cZ hz7 (by simp) λ g8 hz8 e8=>af ⟨_,rfl,?_⟩;have up:∀ c o,c≠z->g5.get? c=My o->g8.get? c=My o:=λ c o q e=>e8.extBut _ _ q (e7.extBut _ _ q (ag _ e));exact fin g8 g5.objs.size _ x y px py (fC size5.symm) hz8 (up _ _ ap.Oz hO5) (C.frame _ _ _ s5 λ c hc o e=>up _ _ (mem ap.zf hc) e) (D.frame _ _ _ u5 λ c hc o e=>up _ _ (mem ap.zg hc) e)
  (e8.extBut _ _ (bR zlt) (e7.extBut _ _ (bR zlt) (aE _ rfl))) λ c o q1 q2 q3 q4 e=>up c o q1 (k5 c o q1 q2 q3 q4 e)
theorem zEnd (ap:Ap z T O i j f g)(C:Draws prog w A i f n P S)(D:Draws prog w A j g m R U){k:Nat}{a b:gH}{Q:Fin->gJ->Prop}(hk:k=n\/(k<n/\k=m))
  (hz:IsZip s.heap z T O .none) (hT:IsPair s.heap T (.ref i) (.ref j)) (hO:IsPair s.heap O a b) (h1:S k s.heap) (h2:U k s.heap)
  (fin:∀ h' e tk,(∀ c o,c≠z->c≠O->c≠i->c≠j->s.heap.get? c=My o->h'.get? c=My o)->(∃ o,h'.get? e=My o/\o.cls=.type "StopIteration")->E (.ref e) {s with heap:=h',toks:=tk}) :
  wpAny (model prog w) A (Builtin.«zip.__next__» ⟨[.ref z],[]⟩) Q E s:=by
 show wpAny _ _ (field (.ref z) 2>>=_) _ _ _;refine ae (bU hz rfl (x:=.bool Rn) rfl (show wpAny _ _ (field (.ref z) 3>>=_) _ _ _ from ae (bU hz rfl (x:=.ref T) rfl (ae (cB hT rfl ?_)))));show wpAny _ _ (Builtin.SmallTypes.ownedTupleIsFree (.ref z)>>=_) _ _ _;refine ae ?_;unfold Builtin.SmallTypes.ownedTupleIsFree;refine ae (bU hz rfl (x:=.none) rfl (af ?_));simp only[dU];refine ae (wpAny_rule (ae (bU hz rfl (x:=.ref O) rfl (ae (cZ hz (by simp) λ g1 hz1 e1=>?_)))));replace hz1:IsZip g1 z T O .ellipsis:=hz1;refine ae ?_;simp only[List.zipIdx_nil,List.zipIdx_cons,eU,dR];have z1:∀ {c o},c≠z->s.heap.get? c=My o->g1.get? c=My o:=λ hc e=>e1.extBut _ _ hc e;have mem:∀ {c y:Addr} {l:List Addr},y∉l->c∈l->c≠y:=λ hn hm e=>hn (e▸hm);have st1:S k g1:=C.frame k _ _ h1 λ c hc o e=>z1 (mem ap.zf hc) e;refine ae (ae (fk ?_));show wpAny _ _ (Builtin.SmallTypes.nextOf (.ref i)>>=_) _ _ _;rcases hk with rfl | ⟨hn,rfl⟩
 ·refine ae (C.done _ _ _ st1 λ g2 e x2 ⟨oe,he,ce⟩=>?_)
  have hz2:IsZip g2 z T O .ellipsis:=x2 _ _ ap.iz.symm hz1;have ez:e≠z:=λ q=>by subst q;rw[hz2]at he;cases he;simp at ce
  exact cZ hz2 (by simp) λ g3 _ e3=>fin g3 e _ (λ c o q1 _ q3 _ x=>e3.extBut _ _ q1 (x2 _ _ q3 (z1 q1 x))) ⟨oe,e3.extBut _ _ ez he,ce⟩
 ·refine ae (C.item k _ _ _ hn st1 λ x g2 tk2 px s2 e2=>af ?_)
  have hO2:IsPair g2 O a b:=e2.extBut _ _ ap.Oi (z1 ap.Oz hO);refine ae (cB hO2 rfl (ae (ft hO2 λ g3 hO3 e3=>ae (wpAny_letGo (af (ae (ae (fk ?_))))))));show wpAny _ _ (Builtin.SmallTypes.nextOf (.ref j)>>=_) _ _ _;refine ae (D.done _ _ _ (D.frame k _ _ h2 λ c hc o e=>e3.extBut _ _ (mem ap.Og hc) (e2.extBut _ _ (mem ap.ig hc) (z1 (mem ap.zg hc) e))) λ g4 e x4 ⟨oe,he,ce⟩=>?_);have hz4:IsZip g4 z T O .ellipsis:=x4 _ _ ap.jz.symm (e3.extBut _ _ ap.Oz.symm (e2.extBut _ _ ap.iz.symm hz1));have ez:e≠z:=λ q=>by subst q;rw[hz4]at he;cases he;simp at ce
  exact cZ hz4 (by simp) λ g5 _ e5=>fin g5 e _ (λ c o q1 q2 q3 q4 x=>e5.extBut _ _ q1 (x4 _ _ q4 (e3.extBut _ _ q2 (e2.extBut _ _ q3 (z1 q1 x))))) ⟨oe,e5.extBut _ _ ez he,ce⟩
theorem Np (ap:Ap z T O i j f g)(C:Draws prog w A.in1 i f n P S)(D:Draws prog w A.in1 j g m R U){k:Nat}{a b:gH}{Q:gF gH->gJ->Prop}(hn:k<n)(hm:k<m)
  (hz:IsZip s.heap z T O .none) (hT:IsPair s.heap T (.ref i) (.ref j)) (hO:IsPair s.heap O a b) (h1:S k s.heap) (h2:U k s.heap)
  (fin:∀ h' N tk x y,P k x->R k y->s.heap.objs.size<=N->IsZip h' z T O (rawInt N)->IsPair h' O x y->S (k+1) h'->U (k+1) h'->IsPair h' N x y ->
   (∀ c o,c≠z->c≠O->c≠i->c≠j->s.heap.get? c=My o->h'.get? c=My o)->Q (My (.ref N)) {s with heap:=h',toks:=tk}) :
  wpAny (model prog w) A (pyNext (.ref z)) Q E s:=by
 have ty:s.TypeIs (.ref z) "zip":=⟨_,hz,rfl⟩;unfold pyNext;exact ae (eo (bJ (name:=Str.ofString "__next__") ty fz (bY fz ty F.entry_zip_next
  (Nn ap C D hn hm hz hT hO h1 h2 λ h' N tk x y q1 q2 q3 q4 q5 q6 q7 q8 q9=>af (fin h' N tk x y q1 q2 q3 q4 q5 q6 q7 q8 q9)) (F.args_zip_next_1 _))))
theorem Nq (ap:Ap z T O i j f g)(C:Draws prog w A.in1 i f n P S)(D:Draws prog w A.in1 j g m R U){k:Nat}{a b:gH}{Q:gF gH->gJ->Prop}(hk:k=n\/(k<n/\k=m))
  (hz:IsZip s.heap z T O .none) (hT:IsPair s.heap T (.ref i) (.ref j)) (hO:IsPair s.heap O a b) (h1:S k s.heap) (h2:U k s.heap)
  (fin:∀ h' tk,(∀ c o,c≠z->c≠O->c≠i->c≠j->s.heap.get? c=My o->h'.get? c=My o)->Q Rl {s with heap:=h',toks:=tk}) :
  wpAny (model prog w) A (pyNext (.ref z)) Q E s:=by
 have ty:s.TypeIs (.ref z) "zip":=⟨_,hz,rfl⟩;unfold pyNext;refine ae (eo (bJ (name:=Str.ofString "__next__") ty fz (bY fz ty F.entry_zip_next
  (zEnd ap C D hk hz hT hO h1 h2 λ h' e tk q1 ⟨o,q2,q3⟩=>?_) (F.args_zip_next_1 _))))
 exact ae (wpAny_isInstance (T:="StopIteration") (b:=Rm) ⟨o,q2,q3⟩ isSubtype_stop (af (fin _ _ q1)))
end
open L2
def pL (t:Bool)(a:Addr):Obj:=match t with
 | true=>{cls:=.type "tuple_iterator",data:=.fields #[.ref a,.int 0 0]}
 | false=>{cls:=.type "list_iterator",data:=.fields #[.ref a,.int 0 0]}
def IsB (t:Bool)(h:Heap)(a:Addr)(arr:Array gH):Prop:=match t with
 | true=>h.IsTuple a arr
 | false=>h.IsList a arr
def ItB (t:Bool)(h:Heap)(j a:Addr)(k:Nat):Prop:=match t with
 | true=>h.IsTupleIter j a k
 | false=>h.IsListIter j a k
def SqB (t:Bool)(K:gG)(H:Hp)(a:Addr)(xs:List V):Prop:=match t with
 | true=>SqT K H a xs
 | false=>SqL K H a xs
section
variable {prog:Program}{w:World}{A:Around}{E:gE}{s:gJ}
theorem Kh {t:Bool}{a:Addr}{arr:Array gH}{Q:gE}(h:IsB t s.heap a arr)(q:Q (.ref s.heap.objs.size) {s with heap:=s.heap.push (pL t a)}):wpAny (model prog w) A (pyIter (.ref a)) Q E s:=by
 cases t with
 | true=>exact fE h q
 | false=>exact eO h q
theorem IsB.push {t:Bool}{h:Heap}{a:Addr}{arr:Array gH}(x:IsB t h a arr)(o:Obj):IsB t (h.push o) a arr:=by
 cases t with
 | true=>exact Heap.IsTuple.push x o
 | false=>exact Heap.IsList.push x o
theorem ItB.keep {t:Bool}{h h':Heap}{j a:Addr}{k:Nat}(x:ItB t h j a k)(e:∀ o,h.get? j=My o->h'.get? j=My o):ItB t h' j a k:=by
 cases t with
 | true=>obtain⟨o,ho,r⟩:=x;exact⟨o,e o ho,r⟩
 | false=>obtain⟨o,ho,r⟩:=x;exact⟨o,e o ho,r⟩
theorem ItB.obj {t:Bool}{h:Heap}{j a:Addr}{k:Nat}(x:ItB t h j a k):∃ o,h.get? j=My o/\∀ v,o.data≠.cell v:=by
 cases t with
 | true=>obtain⟨o,ho,c,d⟩:=x;exact⟨o,ho,λ v z=>by rw[d]at z;cases z⟩
 | false=>obtain⟨o,ho,c,d⟩:=x;exact⟨o,ho,λ v z=>by rw[d]at z;cases z⟩
theorem yN {t:Bool}(hh:A.handled=Rl)(j a:Addr)(ne:a≠j)(arr:Array gH):Draws prog w A j [j,a] arr.size (λ i v=>arr[i]?=My v) (λ i h=>ItB t h j a i/\IsB t h a arr):=by
 cases t with
 | true=>exact Fm hh j a ne arr
 | false=>exact Draws.list hh j a ne arr
def pM (t1 t2:Bool)(l1 l2:Addr)(h:Heap):Heap :=
 ((((h.push (pL t1 l1)).push (pL t2 l2)).push ⟨.type "tuple",Rl,.seq #[.ref h.objs.size,.ref (h.objs.size+1)] 0,#[]⟩).push ⟨.type "tuple",Rl,.seq #[.none,.none] 0,#[]⟩).push ⟨.type "zip",Rl,.fields #[.none,.bool Rn,.bool Rn,.ref (h.objs.size+2),.ref (h.objs.size+3)],#[]⟩
theorem Lw (t1 t2:Bool)(l1 l2:Addr)(xs ys:Array gH) :
  Meets (Builtin.«zip.__new__» ⟨[.type "zip",.ref l1,.ref l2],[]⟩) (λ _ R s=>IsB t1 s.heap l1 xs/\IsB t2 s.heap l2 ys/\R (.ok (.ret (.ref (s.heap.objs.size+4)))) {s with heap:=pM t1 t2 l1 l2 s.heap}) :=
 .of_wp λ prog w A R s h=>by
  obtain⟨hp,g,d,tk,os⟩:=s;obtain⟨hl1,hl2,h⟩:=h;have hsub:=sub_zip;have hL1:IsB t1 (Shared.heap ⟨hp,g,d,tk,os⟩) l1 xs:=hl1;have hL2:IsB t2 (Shared.heap ⟨hp.push (pL t1 l1),g,d,tk,os⟩) l2 ys:=IsB.push hl2 _
  wp_walk using Kh hL1,Kh hL2
  refine⟨_,rfl,?_⟩;unfold pM at h;simp only[cE]at h ⊢;exact h
end
end Zp
namespace L2
open PySem PySem.Spec PyProof.Rows Zp
section
variable {X:Cx}{pins:gL}{σ:St}{H:Hp}{s:gJ}{h':Heap}
theorem Inv.yO {t':Nat}{fp:List Addr}(I:Inv X pins σ H s)(k:∀ b o,b∉fp->s.heap.get? b=My o->h'.get? b=My o)(hf:∀ b∈fp,ux X pins H b):Inv X pins σ H {s with heap:=h',toks:=t'}:=by
 have nit:∀ b u,H b=My u->b∉fp:=λ b u e z=>by rw[(hf b z).1]at e;cases e
 refine I.step (g':=s.gens) (d':=s.drawn) (ch:=fp) (λ b hb=>⟨(hf b hb).2.2.2.1,(hf b hb).2.1,(hf b hb).2.2.2.2.1,(hf b hb).2.2.2.2.2⟩) (λ b o _ _ hc e _=>k b o hc e) (λ b o _ _ hc e _=>⟨o.slots,k b o hc e⟩) (λ _ _ _ _ n=>n)
  (λ b o hc e=>⟨o,k b o hc e⟩) (λ _ _ e=>e) (λ _ _ _ e=>e) (λ b ps e=>⟨#[],by rw[e];simp⟩) (λ m hm=>?_) (λ b u e=>?_) I.bare
 ·obtain⟨o,es,ep,ho,r⟩:=hm;exact⟨o,es,ep,k _ o (λ z=>(hf _ z).2.1 rfl) ho,r⟩
 ·refine(I.hok b u e).u4 (λ c v hc q=>k c v ?_ q) (λ _ q=>q) λ _ _ q=>q
  rcases hc with z | z
  ·rw[z];exact nit b u e
  ·exact nit c _ z
theorem Inv.tL {t:Bool}{a:Addr}{xs:List V}(I:Inv X pins σ H s)(h:SqB t X.K H a xs):∃ its:List gH,Vals xs its/\IsB t s.heap a its.toArray/\xs.length<=sizeLine:=by
 cases t with
 | true=>obtain⟨its,r,p,z⟩:=I.tuple h;exact⟨its,r,p,z⟩
 | false=>obtain⟨its,r,p,z⟩:=I.list h;exact⟨its,r,p.isList,z⟩
theorem Inv.Ag {t:Bool}{a:Addr}{xs ys:List V}(I:Inv X pins σ H s)(h:SqB t X.K H a xs)(h':SqB t X.K H a ys):xs=ys:=by
 cases t with
 | true=>exact I.sX h h'
 | false=>exact I.zM h h'
theorem ItB.cls {t:Bool}{h:Heap}{j a:Addr}{k:Nat}(x:ItB t h j a k):∃ o,h.get? j=My o/\o.cls≠.type "tuple"/\o.cls≠.type "list":=by
 cases t with
 | true=>obtain⟨o,ho,c,d⟩:=x;exact⟨o,ho,by rw[c];decide,by rw[c];decide⟩
 | false=>obtain⟨o,ho,c,d⟩:=x;exact⟨o,ho,by rw[c];decide,by rw[c];decide⟩
def Itz (t1 t2:Bool)(K:gG)(a b:Addr):It :=
  ⟨λ i H=>∃ xs ys,SqB t1 K H a xs/\SqB t2 K H b ys/\i<xs.length/\i<ys.length,
   λ i H v H'=>∃ p x y,v=.ref p/\H p=Rl/\H'=upd H p (.tup [x,y])/\(∀ xs,SqB t1 K H a xs->xs[i]?=My x)/\(∀ ys,SqB t2 K H b ys->ys[i]?=My y),
   λ i H=>∃ xs ys,SqB t1 K H a xs/\SqB t2 K H b ys/\(i=xs.length\/(i<xs.length/\i=ys.length))⟩
def tnz (t1 t2:Bool)(a b z T O i j:Addr)(k:Nat)(h:Heap):Prop:=IsZip h z T O .none/\IsPair h T (.ref i) (.ref j)/\(∃ x y,IsPair h O x y)/\ItB t1 h i a k/\ItB t2 h j b k
theorem Nr (z T O i j:Addr):z∈[z,T,O,i,j]/\T∈[z,T,O,i,j]/\O∈[z,T,O,i,j]/\i∈[z,T,O,i,j]/\j∈[z,T,O,i,j]:=by simp
theorem Ki {z T O i j a b:Addr}(Tz:T≠z)(Oz:O≠z)(TO:T≠O)(iz:i≠z)(jz:j≠z)(Ti:T≠i)(Tj:T≠j)(Oi:O≠i)(Oj:O≠j)(ij:i≠j)(az:a≠z)(bz:b≠z)(aO:a≠O)(bO:b≠O)(aj:a≠j)(bi:b≠i):Ap z T O i j [i,a] [j,b] :=
 ⟨Tz,Oz,TO,iz,jz,Ti,Tj,Oi,Oj,ij,by simp[bj iz,bj az],by simp[bj jz,bj bz],by simp[Oi,bj aO],by simp[Oj,bj bO],by simp[bj ij,bj aj],by simp[ij,bj bi]⟩
theorem yP {X:Cx}{pins:gL}{σ:St}{H:Hp}{s:gJ}{fp:List Addr}(I:Inv X pins σ H s)(hf:∀ q∈fp,ux X pins H q){t:Bool}{c:Addr}{zs:List V}(hs:SqB t X.K H c zs)(q:Addr)(hq:q∈fp):c≠q:=by
 intro e;have hn:=(hf q hq).1;have hnk:X.K.lookup q=Rl:=by
  cases hkq:X.K.lookup q with
  | none=>rfl
  | some oo =>
   have hb:=I.ok.mod.kin q oo hkq;exfalso;rcases (hf q hq).2.2.2.1 with hx | hx
   ·exact I.ok.Bd q oo hb hx
   ·exact aW _ (aH (av hb) (bA I.ok.bsz hx))
 rw[e]at hs;cases t with
 | true =>
  rcases hs with (r | ⟨_,r⟩) | ⟨oo,_,_,r,_⟩
  ·rw[hn]at r;cases r
  ·rw[hn]at r;cases r
  ·rw[hnk]at r;cases r
 | false =>
  rcases hs with (r | ⟨_,r⟩) | ⟨oo,_,_,r,_⟩
  ·rw[hn]at r;cases r
  ·rw[hn]at r;cases r
  ·rw[hnk]at r;cases r
theorem Fn {P:Program}{w:World}{K:gG}{elts:List Expr}{kk:Nat}{ps:Pos}(t1 t2:Bool)(a b z T O i j:Addr)(Tz:T≠z)(Oz:O≠z)(TO:T≠O)(iz:i≠z)(jz:j≠z)(Ti:T≠i)(Tj:T≠j)(Oi:O≠i)(Oj:O≠j)(ij:i≠j) :
  Turn P w K (.Tuple elts kk ps) (Itz t1 t2 K a b) [z,T,O,i,j] z (tnz t1 t2 a b z T O i j) where
 mem:=by simp
 obj:=λ k h st c hc=>by
  obtain⟨hz,hT,⟨x,y,hO⟩,h1,h2⟩:=st;simp only[ax,aN,or_false]at hc;rcases hc with rfl | rfl | rfl | rfl | rfl
  ·exact⟨_,hz,λ v q=>by cases q⟩
  ·exact⟨_,hT,λ v q=>by cases q⟩
  ·exact⟨_,hO,λ v q=>by cases q⟩
  ·exact h1.obj
  ·exact h2.obj
 keep:=λ k h h' st kp=>by obtain⟨hz,hT,⟨x,y,hO⟩,h1,h2⟩:=st;exact⟨kp z (by simp) _ hz,kp T (by simp) _ hT,⟨x,y,kp O (by simp) _ hO⟩,h1.keep λ o e=>kp i (by simp) o e,h2.keep λ o e=>kp j (by simp) o e⟩
 item:=by
  intro X hP hw hK hc k pins s σ H E I hf st hg;subst hP hw hK;obtain⟨xs,ys,hq1,hq2,hk1,hk2⟩:=hg;obtain⟨hz,hT,⟨x0,y0,hO⟩,h1,h2⟩:=st;obtain⟨its1,rv1,p1,_⟩:=I.tL hq1;obtain⟨its2,rv2,p2,_⟩:=I.tL hq2;obtain⟨oi,gi,ci,ci'⟩:=ItB.cls (t:=t1) (h:=s.heap) (j:=i) (a:=a) (k:=k) h1;obtain⟨oj,gj,cj,cj'⟩:=ItB.cls (t:=t2) (h:=s.heap) (j:=j) (a:=b) (k:=k) h2;have hl1:=rv1.length;have hl2:=rv2.length;have m5:=Nr z T O i j;have na:=yP I hf hq1;have nb:=yP I hf hq2;have ap:=Ki Tz Oz TO iz jz Ti Tj Oi Oj ij (na _ m5.1) (nb _ m5.1) (na _ m5.2.2.1) (nb _ m5.2.2.1) (na _ m5.2.2.2.2) (nb _ m5.2.2.2.1);refine Np ap (yN (prog:=X.prog) (w:=X.w) (A:=X.A.in1) (t:=t1) (show X.A.in1.handled=Rl from I.ok.hd hc) i a (na i m5.2.2.2.1) its1.toArray) (yN (prog:=X.prog) (w:=X.w) (A:=X.A.in1) (t:=t2) (show X.A.in1.handled=Rl from I.ok.hd hc) j b (nb j m5.2.2.2.2) its2.toArray) (by simp;lia) (by simp;lia) hz hT hO ⟨h1,p1⟩ ⟨h2,p2⟩ ?_;intro h' N tk x y px py hN hz' hO' s1 s2 hNp kp;refine⟨.ref N,rfl,?_⟩;have I1:Inv X pins σ H {s with heap:=h',toks:=tk}:=I.yO (fp:=[z,T,O,i,j]) (λ c o hc' e=>kp c o (λ q=>hc' (q▸m5.1)) (λ q=>hc' (q▸m5.2.2.1)) (λ q=>hc' (q▸m5.2.2.2.1)) (λ q=>hc' (q▸m5.2.2.2.2)) e) hf;have hxk:xs[k]?=My (xs[k]'hk1):=by simp[hk1]
  have hyk:ys[k]?=My (ys[k]'hk2):=by simp[hk2]
  obtain⟨u1,e1,r1⟩:=rv1.get hxk;obtain⟨u2,e2,r2⟩:=rv2.get hyk;have px':its1[k]?=My x:=by simpa using px
  have py':its2[k]?=My y:=by simpa using py
  rw[e1]at px';cases px';rw[e2]at py';cases py';have hNn:H N=Rl:=I.hok.fresh hN;have I2:Inv X pins σ (upd H N (.tup [xs[k],ys[k]])) {s with heap:=h',toks:=tk}:=I1.Ad hNn (bA I.sz hN) (bR (aH I.lt hN)) (λ x c e q=>by
    obtain⟨v,o,ho,_⟩:=I.cell x c e;exact absurd (av ho) (by rw[q];exact fL.mpr hN)) (λ p hp q=>absurd (av (I.pin p hp).1) (by rw[q];exact fL.mpr hN))
   ⟨⟨by rw[sizeLine_eq];simp,_,hNp,rfl⟩,[x,y],.cons r1 (.cons r2 .nil),⟨_,hNp,rfl,0,rfl⟩⟩
  have nfp:∀ q∈[z,T,O,i,j],q≠N:=λ q hq e=>by
   have:q<s.heap.objs.size:=by
    simp only[ax,aN,or_false]at hq;rcases hq with rfl | rfl | rfl | rfl | rfl
    ·exact av hz
    ·exact av hT
    ·exact av hO
    ·exact av gi
    ·exact av gj
   rw[e]at this;exact aW _ (aH this hN)
  have hf2:∀ q∈[z,T,O,i,j],ux X pins (upd H N (.tup [xs[k],ys[k]])) q:=λ q hq=>⟨by rw[g9 (nfp q hq)];exact(hf q hq).1,(hf q hq).2⟩;refine wpAny_letOwnedTupleGo_zip hz' λ h2' hz2 sb=>?_;refine⟨.ref N,_,I2.yO (t':=tk) (fp:=[z,T,O,i,j]) (λ c o hc' e=>sb.extBut _ _ (λ q=>hc' (by simp[q])) e) hf2,rfl,⟨N,_,_,rfl,hNn,rfl,λ zs hs=>?_,λ zs hs=>?_⟩,⟨hz2,sb.extBut _ _ Tz (kp T _ Tz TO Ti Tj hT),⟨_,_,sb.extBut _ _ Oz hO'⟩,s1.1.keep λ o e=>sb.extBut _ _ iz e,s2.1.keep λ o e=>sb.extBut _ _ jz e⟩,λ q hq=>(hf2 q hq).1⟩
  ·rw[I.Ag hs hq1];exact hxk
  ·rw[I.Ag hs hq2];exact hyk
 done:=by intro X hP hw hK hc k pins s σ H E I hf st hg;subst hP hw hK;obtain⟨xs,ys,hq1,hq2,hk⟩:=hg;obtain⟨hz,hT,⟨x0,y0,hO⟩,h1,h2⟩:=st;obtain⟨its1,rv1,p1,_⟩:=I.tL hq1;obtain⟨its2,rv2,p2,_⟩:=I.tL hq2;have hl1:=rv1.length;have hl2:=rv2.length;have m5:=Nr z T O i j;have na:=yP I hf hq1;have nb:=yP I hf hq2;have ap:=Ki Tz Oz TO iz jz Ti Tj Oi Oj ij (na _ m5.1) (nb _ m5.1) (na _ m5.2.2.1) (nb _ m5.2.2.1) (na _ m5.2.2.2.2) (nb _ m5.2.2.2.1);refine Nq ap (yN (prog:=X.prog) (w:=X.w) (A:=X.A.in1) (t:=t1) (show X.A.in1.handled=Rl from I.ok.hd hc) i a (na i m5.2.2.2.1) its1.toArray) (yN (prog:=X.prog) (w:=X.w) (A:=X.A.in1) (t:=t2) (show X.A.in1.handled=Rl from I.ok.hd hc) j b (nb j m5.2.2.2.2) its2.toArray) (k:=k) (by simp;lia) hz hT hO ⟨h1,p1⟩ ⟨h2,p2⟩ ?_;intro h' tk kp;exact⟨rfl,I.yO (fp:=[z,T,O,i,j]) (λ c o hc' e=>kp c o (λ q=>hc' (q▸m5.1)) (λ q=>hc' (q▸m5.2.2.1)) (λ q=>hc' (q▸m5.2.2.2.1)) (λ q=>hc' (q▸m5.2.2.2.2)) e) hf⟩
 self:=λ _ _ _ _ _ st h=>wpAny_pyIter_zip st.1 h
end
def Lx (K:gG)(J:It)(H:Hp)(ds:List Dt):Prop:=∀ H',gY H H'->(∀ (i:Nat) d,ds[i]?=My d->J.go i H'/\∀ x H'',J.yld i H' x H''->gY H' H''/\Is K H'' x d)/\J.stop ds.length H'
def iD (K:gG)(g:DE->gF (List Dt)):TI:=λ σ H R=>∃ δ ds,Sat K H σ δ/\g δ=My ds/\∀ J H',gY H H'->Lx K J H' ds->R J H'
section
variable {X:Cx}{e a b c:Expr}{es:List Expr}{pos:Pos}{tg iter:Expr}
theorem PI.of {t t':TI}(h:PI X tg iter t)(w:∀ σ H Q,t' σ H Q->t σ H Q):PI X tg iter t':=λ pins s σ H Q I q=>h pins s σ H Q I (w σ H Q q)
def vJ:Dt->gF (List Dt)
 | .tup ds=>My ds
 | _=>Rl
def CS:Dt->gF (List Dt)
 | .lst ds=>My ds
 | _=>Rl
theorem tM {d:Dt}{ds:List Dt}(h:vJ d=My ds):d=.tup ds:=by cases d<;>simp[vJ]at h;rw[h]
theorem xT {d:Dt}{ds:List Dt}(h:CS d=My ds):d=.lst ds:=by cases d<;>simp[CS]at h;rw[h]
def gI (f:Dt->gF (List Dt))(g:DE->gF Dt):DE->gF (List Dt):=λ δ=>(g δ).bind f
theorem Ly {g:DE->gF Dt}(h:PD X e g):PI X tg e (iD X.K (gI vJ g)):=(EF h).of λ σ H R hz1=>by obtain⟨δ,ds,S,q,k⟩:=hz1;obtain⟨x,e1,e2⟩:=gQ q;have e2:=tM e2;subst e2;refine⟨δ,_,S,e1,λ v H1 s1 i1=>?_⟩;obtain⟨a,xs,rfl,hq,is⟩:=i1.ip;refine⟨a,rfl,⟨xs,hq⟩,k _ H1 s1 λ H2 s2=>⟨λ i d hd=>?_,⟨xs,s2.tI hq,by rw[is.length];exact ar _⟩⟩⟩;obtain⟨v,hv,iv⟩:=is.get hd;exact⟨⟨xs,v,s2.tI hq,hv⟩,λ x H3 hz2=>by obtain⟨e3,y⟩:=hz2;subst e3;have:=y xs (s2.tI hq);rw[hv]at this;cases this;exact⟨gY.refl _,iv.ext s2⟩⟩
theorem Lz {g:DE->gF Dt}(h:PD X e g):PI X tg e (iD X.K (gI CS g)):=(rq h).of λ σ H R hz3=>by obtain⟨δ,ds,S,q,k⟩:=hz3;obtain⟨x,e1,e2⟩:=gQ q;have e2:=xT e2;subst e2;refine⟨δ,_,S,e1,λ v H1 s1 i1=>?_⟩;obtain⟨a,xs,rfl,hq,is⟩:=i1.lst_inv;refine⟨a,rfl,⟨xs,SqL.of hq⟩,k _ H1 s1 λ H2 s2=>⟨λ i d hd=>?_,⟨xs,s2.seq (SqL.of hq),by rw[is.length];exact ar _⟩⟩⟩;obtain⟨v,hv,iv⟩:=is.get hd;exact⟨⟨xs,v,s2.seq (SqL.of hq),hv⟩,λ x H3 hz4=>by obtain⟨e3,y⟩:=hz4;subst e3;have:=y xs (s2.seq (SqL.of hq));rw[hv]at this;cases this;exact⟨gY.refl _,iv.ext s2⟩⟩
def Ah:List Dt->gF (List Dt)
 | [.int j]=>if j<=1000000/\-1000000<=j then My ((Ro j.toNat).map λ(i:Nat)=>.int i) else Rl
 | _=>Rl
def Ic:List Dt->gF (List Dt)
 | [.int i,.int j]=>if (-1000000<=i/\i<=1000000)/\j<=1000000/\-1000000<=j then My ((Ro (j-i).toNat).map λ(k:Nat)=>.int (i+k)) else Rl
 | _=>Rl
theorem Fo {x ds:List Dt}(e:Ah x=My ds):∃ j:Int,x=[.int j]/\(j<=1000000/\-1000000<=j)/\ds=(Ro j.toNat).map λ(i:Nat)=>Dt.int i:=by
 cases x with
 | nil=>cases e
 | cons y r=>cases r with
  | cons _ _=>cases y<;>cases e
  | nil=>cases y with
   | int j =>
    have e:(if j<=1000000/\-1000000<=j then My ((Ro j.toNat).map λ(i:Nat)=>Dt.int i) else Rl)=My ds:=e;by_cases hj:j<=1000000/\-1000000<=j
    ·rw[ai hj]at e;exact⟨j,rfl,hj,(ak e).symm⟩
    ·rw[aq hj]at e;cases e
   | _=>cases e
theorem Fp {x ds:List Dt}(e:Ic x=My ds):∃ i j:Int,x=[.int i,.int j]/\((-1000000<=i/\i<=1000000)/\j<=1000000/\-1000000<=j)/\ds=(Ro (j-i).toNat).map λ(k:Nat)=>Dt.int (i+k):=by
 cases x with
 | nil=>cases e
 | cons y r=>cases y with
  | int i=>cases r with
   | nil=>cases e
   | cons z r=>cases z with
    | int j=>cases r with
     | cons _ _=>cases e
     | nil =>
      have e:(if (-1000000<=i/\i<=1000000)/\j<=1000000/\-1000000<=j then My ((Ro (j-i).toNat).map λ(k:Nat)=>Dt.int (i+k)) else Rl)=My ds:=e;by_cases hj:(-1000000<=i/\i<=1000000)/\j<=1000000/\-1000000<=j
      ·rw[ai hj]at e;exact⟨i,j,rfl,hj,(ak e).symm⟩
      ·rw[aq hj]at e;cases e
    | _=>cases e
  | _=>cases e
theorem Fq {K:gG}{H:Hp}(lo:Int)(n:Nat):Lx K (Itr lo n) H ((Ro n).map λ(k:Nat)=>.int (lo+k)):=λ H1 s1=>by
 refine⟨λ i d hd=>?_,by show n<=_;simp⟩;rw[aJ]at hd;by_cases hi:i<n
 ·rw[cP hi]at hd;cases hd;exact⟨hi,λ x H2 ⟨e1,e2⟩=>by subst e1;subst e2;exact⟨gY.refl _,.int _⟩⟩
 ·rw[bV (by simpa using hi)]at hd;cases hd
theorem DL {gs:DE->gF (List Dt)}{p:Pos}(hm:X.mg "range"=Rl)(ha:PDs X [a] gs)(hg:Gl X "range":=by rfl)(hs:starEach [a] X.env=[(Rn,eval a X.env)]:=by rfl):PI X tg (.Call (.Name "range" p) [a] [] pos) (iD X.K (λ δ=>(gs δ).bind Ah)) :=
 (lN hg hm ha hs).of λ σ H R hz5=>by
  obtain⟨δ,ds,S,q,k⟩:=hz5;obtain⟨x,e1,e2⟩:=gQ q;obtain⟨j,rfl,hj,rfl⟩:=Fo e2;refine⟨δ,_,S,e1,λ vs H1 s1 i1=>?_⟩;cases i1 with
  | cons i1 i2 =>cases i2;cases i1;refine⟨j,rfl,by lia,by lia,k _ H1 s1 ?_⟩;have:=Fq (K:=X.K) (H:=H1) 0 j.toNat;simpa using this
theorem DM {gs:DE->gF (List Dt)}{p:Pos}(hm:X.mg "range"=Rl)(ha:PDs X [a,b] gs)(hg:Gl X "range":=by rfl)(hs:starEach [a,b] X.env=[(Rn,eval a X.env),(Rn,eval b X.env)]:=by rfl)(hs2:starEach [b] X.env=[(Rn,eval b X.env)]:=by rfl):PI X tg (.Call (.Name "range" p) [a,b] [] pos) (iD X.K (λ δ=>(gs δ).bind Ic)) :=
 (xC hg hm ha hs hs2).of λ σ H R hz6=>by
  obtain⟨δ,ds,S,q,k⟩:=hz6;obtain⟨x,e1,e2⟩:=gQ q;obtain⟨i,j,rfl,hj,rfl⟩:=Fp e2;refine⟨δ,_,S,e1,λ vs H1 s1 i1=>?_⟩;cases i1 with
  | cons i1 i2 =>
   cases i2 with
   | cons i2 i3 =>cases i3;cases i1;cases i2;exact⟨i,j,rfl,⟨by lia,by lia,by lia,by lia⟩,k _ H1 s1 (Fq i _)⟩
def itB (t:Bool):Dt->gF (List Dt):=match t with
 | true=>vJ
 | false=>CS
theorem CT {K:gG}{H:Hp}{v:V}{t:Bool}{d:Dt}{ds:List Dt}(h:itB t d=My ds)(i:Is K H v d):∃ a xs,v=.ref a/\SqB t K H a xs/\Iss K H xs ds:=by
 cases t with
 | true=>rw[tM h]at i;exact i.ip
 | false =>rw[xT h]at i;obtain⟨a,xs,e,q,r⟩:=i.lst_inv;exact⟨a,xs,e,SqL.of q,r⟩
theorem gY.tL {K:gG}{H H':Hp}{t:Bool}{a:Addr}{xs:List V}(e:gY H H')(h:SqB t K H a xs):SqB t K H' a xs:=by
 cases t with
 | true=>exact e.tI h
 | false=>exact e.seq h
def Ie (t1 t2:Bool):List Dt->gF (List Dt)
 | [x,y]=>(itB t1 x).bind λ xs=>(itB t2 y).map λ ys=>(xs.zip ys).map λ(p,q)=>.tup [p,q]
 | _=>Rl
theorem nn {a b:Nat}(h:a≠b):@Ne Addr a b:=h
theorem Fs (t1 t2:Bool)(x y:Addr)(h:Heap):IsZip (pM t1 t2 x y h) (h.objs.size+4) (h.objs.size+2) (h.objs.size+3) .none/\IsPair (pM t1 t2 x y h) (h.objs.size+2) (.ref h.objs.size) (.ref (h.objs.size+1))/\IsPair (pM t1 t2 x y h) (h.objs.size+3) .none .none /\
  ItB t1 (pM t1 t2 x y h) h.objs.size x 0/\ItB t2 (pM t1 t2 x y h) (h.objs.size+1) y 0/\∀ b u,h.get? b=My u->(pM t1 t2 x y h).get? b=My u:=by
 have fr:∀ t a,(pL t a).isFreed=Rn:=λ t a=>by cases t<;>rfl
 have up:∀ (o1:Obj) (g:Heap) (n:Nat),g.objs.size=n->o1.isFreed=Rn->(g.push o1).get? n=My o1:=λ o1 g n e f=>by subst e;exact aE _ f
 unfold pM;generalize hn:h.objs.size=n;have z1:(h.push (pL t1 x)).objs.size=n+1:=by rw[cE,hn]
 have z2:((h.push (pL t1 x)).push (pL t2 y)).objs.size=n+2:=by rw[cE,z1]
 refine⟨?_,?_,?_,?_,?_,?_⟩
 ·refine up _ _ _ ?_ rfl;rw[cE,cE,z2]
 ·refine ag _ (ag _ (up _ _ _ ?_ rfl));rw[z2]
 ·refine ag _ (up _ _ _ ?_ rfl);rw[cE,z2]
 ·have g:=ag (⟨.type "zip",Rl,.fields #[.none,.bool Rn,.bool Rn,.ref (n+2),.ref (n+3)],#[]⟩:Obj) (ag (⟨.type "tuple",Rl,.seq #[.none,.none] 0,#[]⟩:Obj) (ag (⟨.type "tuple",Rl,.seq #[.ref n,.ref (n+1)] 0,#[]⟩:Obj) (ag (pL t2 y) (up (pL t1 x) h n hn (fr _ _)))))
  cases t1 with
  | true=>exact⟨_,g,rfl,rfl⟩
  | false=>exact⟨_,g,rfl,rfl⟩
 ·have g:=ag (⟨.type "zip",Rl,.fields #[.none,.bool Rn,.bool Rn,.ref (n+2),.ref (n+3)],#[]⟩:Obj) (ag (⟨.type "tuple",Rl,.seq #[.none,.none] 0,#[]⟩:Obj) (ag (⟨.type "tuple",Rl,.seq #[.ref n,.ref (n+1)] 0,#[]⟩:Obj) (up (pL t2 y) _ (n+1) z1 (fr _ _))))
  cases t2 with
  | true=>exact⟨_,g,rfl,rfl⟩
  | false=>exact⟨_,g,rfl,rfl⟩
 ·exact λ b u e=>ag _ (ag _ (ag _ (ag _ (ag _ e))))
theorem LA {ta:TA}{elts:List Expr}{kk:Nat}{ps p:Pos}(t1 t2:Bool)(hg:Gl X "zip")(hm:X.mg "zip"=Rl)(ha:PA X [a,b] ta)(hs:starEach [a,b] X.env=[(Rn,eval a X.env),(Rn,eval b X.env)]:=by rfl)(hs2:starEach [b] X.env=[(Rn,eval b X.env)]:=by rfl)
  (hv:bootBuiltins "zip"=My (.type "zip"):=by rfl) :
  PI X (.Tuple elts kk ps) (.Call (.Name "zip" p) [a,b] [] pos) (λ σ H R=>ta σ H λ vs H1=>∃ x y,vs=[.ref x,.ref y]/\(∃ xs,SqB t1 X.K H1 x xs)/\(∃ ys,SqB t2 X.K H1 y ys)/\R (Itz t1 t2 X.K x y) H1):=by
 intro pins s σ H R I h;refine Call_ (sW I hg hm hv (cR (thn (ha pos pins s σ H _ I h) λ us s1 ⟨vs,H1,I1,r1,q1⟩=>?_) (by rw[hs,hs2]) (by rw[hs2];rfl)));obtain⟨x,y,rfl,⟨xs,hx⟩,⟨ys,hy⟩,q⟩:=q1;obtain⟨u,u',rfl,ru,ru'⟩:=vals2 r1;cases ru;cases ru';obtain⟨its1,_,p1,_⟩:=I1.tL hx;obtain⟨its2,_,p2,_⟩:=I1.tL hy;refine callType_new F.called_zip (by decide) (F.typeCall_zip_2 _ _) (F.newCall_zip_2 _ _) (λ obj=>F.args_object_init_3 obj _ _) F.entry_zip_new (Lw t1 t2 x y its1.toArray its2.toArray) ⟨p1,p2,?_⟩;obtain⟨k1,k2,k3,k4,k5,k6⟩:=Fs t1 t2 x y s1.heap;show _/\_;refine⟨⟨_,k1,rfl⟩,wpAny_pyIter_zip (s:={s1 with heap:=pM t1 t2 x y s1.heap}) (z:=s1.heap.objs.size+4) k1 ?_⟩;have I2:Inv X pins σ H1 {s1 with heap:=pM t1 t2 x y s1.heap}:=I1.kept (t':=s1.toks) k6;refine⟨_,[s1.heap.objs.size+4,s1.heap.objs.size+2,s1.heap.objs.size+3,s1.heap.objs.size,s1.heap.objs.size+1],_,_,H1,rfl,I2,Fn t1 t2 x y (s1.heap.objs.size+4) (s1.heap.objs.size+2) (s1.heap.objs.size+3) s1.heap.objs.size (s1.heap.objs.size+1) (nn (by lia)) (nn (by lia)) (nn (by lia)) (nn (by lia)) (nn (by lia)) (nn (by lia)) (nn (by lia)) (nn (by lia)) (nn (by lia)) (nn (by lia)),⟨k1,k2,⟨_,_,k3⟩,k4,k5⟩,λ c hc=>?_,q⟩;have hc:s1.heap.objs.size<=c:=by
  simp only[ax,aN,or_false]at hc;rcases hc with rfl | rfl | rfl | rfl | rfl
  ·exact d4 _ _
  ·exact d4 _ _
  ·exact d4 _ _
  ·exact ar _
  ·exact d4 _ _
 exact I1.Hz hc (I1.hok.fresh hc)
theorem LB {gs:DE->gF (List Dt)}{elts:List Expr}{kk:Nat}{ps p:Pos}(t1 t2:Bool)(hm:X.mg "zip"=Rl)(ha:PDs X [a,b] gs)(hg:Gl X "zip":=by rfl)(hs:starEach [a,b] X.env=[(Rn,eval a X.env),(Rn,eval b X.env)]:=by rfl)(hs2:starEach [b] X.env=[(Rn,eval b X.env)]:=by rfl)
  (hv:bootBuiltins "zip"=My (.type "zip"):=by rfl):PI X (.Tuple elts kk ps) (.Call (.Name "zip" p) [a,b] [] pos) (iD X.K (λ δ=>(gs δ).bind (Ie t1 t2))) :=
 (LA t1 t2 hg hm ha hs hs2 hv).of λ σ H R hz7=>by
  obtain⟨δ,ds,S,q,k⟩:=hz7;obtain⟨x,e1,e2⟩:=gQ q;match x,e2 with
  | [x,y],e2 =>
   obtain⟨xs,f1,e2⟩:=gQ (show(itB t1 x).bind _=_ from e2);obtain⟨ys,f2,e2⟩:=ir e2;subst e2;refine⟨δ,_,S,e1,λ vs H1 s1 i1=>?_⟩;cases i1 with
   | cons i1 i2 =>
    cases i2 with
    | cons i2 i3 =>
     cases i3;obtain⟨c,vs1,rfl,q1,is1⟩:=CT f1 i1;obtain⟨d,vs2,rfl,q2,is2⟩:=CT f2 i2;refine⟨c,d,rfl,⟨_,q1⟩,⟨_,q2⟩,k _ H1 s1 λ H2 s2=>⟨λ i dd hd=>?_,⟨vs1,vs2,s2.tL q1,s2.tL q2,?_⟩⟩⟩
     ·rw[aJ]at hd
      cases hz:(xs.zip ys)[i]? with
      | none=>rw[hz]at hd;cases hd
      | some pr =>rw[hz]at hd;obtain⟨pa,pb⟩:=pr;cases hd;obtain⟨h1,h2⟩:=List.getElem?_zip_eq_some.mp hz;obtain⟨v1,g1,j1⟩:=is1.get h1;obtain⟨v2,g2,j2⟩:=is2.get h2;refine⟨⟨vs1,vs2,s2.tL q1,s2.tL q2,(aL.mp g1).1,(aL.mp g2).1⟩,?_⟩;rintro v H3 ⟨p,a1,a2,rfl,hp,rfl,r1,r2⟩;have w1:=r1 vs1 (s2.tL q1);have w2:=r2 vs2 (s2.tL q2);rw[g1]at w1;cases w1;rw[g2]at w2;cases w2;exact⟨gY.upd hp,.tup (SqT.of gW) (.cons ((j1.ext s2).ext (gY.upd hp)) (.cons ((j2.ext s2).ext (gY.upd hp)) .nil))⟩
     ·have l1:=is1.length;have l2:=is2.length;simp only[ah,List.length_zip];lia
end
def GD (K:gG)(g:TG)(gg:Dt->DE->gF DE):Prop:=∀ H x d σ δ δ' (Q:St->Hp->Prop),Is K H x d->Sat K H σ δ->gg d δ=My δ'->(∀ σ',Sat K H σ' δ'->Q σ' H)->g x σ H Q
def ggN (i:Nat):Dt->DE->gF DE:=λ d δ=>My (δ.set i (My d))
def nM (i j:Nat):Dt->DE->gF DE:=λ d δ=>match d with
 | .tup [x,y]=>My ((δ.set i (My x)).set j (My y))
 | _=>Rl
theorem Ft {i j:Nat}{d:Dt}{δ δ':DE}(e:nM i j d δ=My δ'):∃ x y,d=.tup [x,y]/\δ'=(δ.set i (My x)).set j (My y):=by
 cases d with
 | tup l=>cases l with
  | nil=>cases e
  | cons x l=>cases l with
   | nil=>cases e
   | cons y l=>cases l with
    | nil=>exact⟨x,y,rfl,(ak e).symm⟩
    | cons _ _=>cases e
 | _=>cases e
theorem kB {K:gG}{i:Nat}:GD K (iM i) (ggN i):=λ H x d σ δ δ' Q h S e q=>by cases e;exact q _ (S.set h)
theorem ni {K:gG}{i j:Nat}:GD K (EB K 2 (t_ (iM i) (t_ (iM j) EA))) (nM i j):=λ H x d σ δ δ' Q h S e q=>by
 obtain⟨d1,d2,rfl,rfl⟩:=Ft e;obtain⟨a,xs,rfl,hq,is⟩:=h.ip;cases is with
 | cons i1 i2 =>
  cases i2 with
  | cons i2 i3 =>cases i3;exact⟨a,_,rfl,hq,rfl,_,_,rfl,_,_,rfl,rfl,q _ ((S.set i1).set i2)⟩
def o7 (own:List Str)(ix:List Nat)(δ:DE):DE:=own.map (λ _=>Rl)++ix.map λ i=>(δ[i]?).getD Rl
def qP (gg:Dt->DE->gF DE)(gt:DE->gF Bool)(ge:DE->gF Dt)(δc:DE):List Dt->gF (List Dt)
 | []=>My []
 | d::r=>(gg d δc).bind λ δ'=>(gt δ').bind λ b=>if b=Rm then (ge δ').bind λ y=>(qP gg gt ge δc r).map (y::·) else qP gg gt ge δc r
def gLC (own:List Str)(ix:List Nat)(gi:DE->gF (List Dt))(gg:Dt->DE->gF DE)(gt:DE->gF Bool)(ge:DE->gF Dt):DE->gF Dt :=
 λ δ=>(gi δ).bind λ ds=>if ds.length<=1000 then (qP gg gt ge (o7 own ix δ) ds).map .lst else Rl
def jU:DE->gF Bool:=λ _=>My Rm
section
variable {X:Cx}{e a b c:Expr}{es:List Expr}{pos:Pos}{tg iter elt:Expr}{ifs:List Expr}{own fr:List Str}{ix:List Nat}{scope:Scope}{g:TG}{gg:Dt->DE->gF DE}{gi:DE->gF (List Dt)}{gt:DE->gF Bool}{ge:DE->gF Dt}
theorem ox:PF X [] (tDT X.K jU):=λ pins s σ H Q I ⟨δ,b,S,e,q⟩=>by cases e;exact BL pins s σ H Q I (q H (gY.refl H))
theorem yQ (h:PDT X c gt):PF X [c] (tDT X.K gt):=Lq h
set_option tactic.hygienic true in
theorem Fu {K:gG}(hgd:GD K g gg)(σ:St)(H:Hp)(Q:VK)(h:tD K (gLC own ix gi gg gt ge) σ H Q):tLC own ix (iD K gi) g (tDT K gt) (tD K ge) σ H Q:=by
 obtain⟨δ,d,S,e,q⟩:=h;obtain⟨ds,e1,e⟩:=gQ e;split at e
 ·rename_i hlen
  obtain⟨rs,e2,e⟩:=ir e;subst e;refine⟨δ,ds,S,e1,λ J H1 s1 ok=>?_⟩;refine⟨λ i m ys H'=>m=ds.length-i/\i<=ds.length/\gY H1 H'/\ys.length<=i/\∃ us vs,Iss K H' ys us/\qP gg gt ge (o7 own ix δ) (ds.drop i)=My vs/\us++vs=rs,⟨_,rfl,aQ _,gY.refl _,ar _,[],rs,.nil,by simpa using e2,rfl⟩,?_⟩;rintro i m ys H' ⟨rfl,hi,s2,hy,us,vs,is,e3,e4⟩;obtain⟨items,stop⟩:=ok H' s2;by_cases hlt:i<ds.length
  ·right
   have hdi:ds[i]?=My ds[i]:=by simp[hlt]
   obtain⟨go,yld⟩:=items i _ hdi;refine⟨go,by have:=qL;rw[sizeLine_eq];lia,λ x H'' hyl=>?_⟩;obtain⟨s3,ix3⟩:=yld x H'' hyl;rw[cJ hlt]at e3;obtain⟨δ',f1,e3⟩:=gQ (show(gg ds[i] (o7 own ix δ)).bind _=_ from e3);obtain⟨k,f2,e3⟩:=gQ e3;have S':Sat K H'' (jQ own ix σ) (o7 own ix δ):=(S.ext ((s1.trans s2).trans s3)).comp;refine hgd H'' x ds[i] _ _ δ' _ ix3 S' f1 λ σ' Sσ=>⟨δ',k,Sσ,f2,λ H3 s4=>?_⟩;cases k with
   | true =>rw[ai rfl]at e3 ⊢;obtain⟨y,f3,e3⟩:=gQ e3;obtain⟨r,f4,e3⟩:=ir e3;subst e3;refine⟨δ',y,Sσ.ext s4,f3,λ v H4 s5 iv=>⟨ds.length-(i+1),by lia,rfl,hlt,((s2.trans s3).trans s4).trans s5,by simp;lia,us++[y],r,(is.ext ((s3.trans s4).trans s5)).snoc iv,f4,by rw[<-e4];simp⟩⟩
   | false =>rw[aq au]at e3 ⊢;exact⟨ds.length-(i+1),by lia,rfl,hlt,(s2.trans s3).trans s4,by lia,us,vs,is.ext (s3.trans s4),e3,e4⟩
  ·left
   have hi:i=ds.length:=by lia
   subst hi;rw[fe]at e3;cases e3;rw[bt]at e4;subst e4;exact⟨stop,λ p hp=>q _ _ ((s1.trans s2).trans (gY.upd hp)) (.lst gW (is.ext (gY.upd hp)))⟩
 ·cases e
theorem yR (hc:X.calm=Rm)(S:ly X scope own fr ix)(hi:PI X tg iter (iD X.K gi))(hg:∀ C s H fp,PG (X.comp (own++fr) scope C s H fp) tg g)(hgo:BM own.length g)(hgd:GD X.K g gg)
  (ht:∀ C s H fp,PF (X.comp (own++fr) scope C s H fp) ifs (tDT X.K gt)) (he:∀ C s H fp,PE (X.comp (own++fr) scope C s H fp) elt (tD X.K ge)) (hs:∀ x,foldedSetIterable iter X.env x=pure x:=by intro _;rfl) :
  PD X (.ListComp elt [⟨tg,iter,ifs,0⟩] scope pos) (gLC own ix gi gg gt ge):=(Fd hc S hi hg hgo ht he hs).of (Fu hgd)
inductive RD where
 | nx (δ:DE) | rt (d:Dt)
def Nt (K:gG)(D:Ends)(H:Hp):RD->Prop
 | .nx δ=>∀ σ,Sat K H σ δ->D.nx σ H
 | .rt d=>∀ v,Is K H v d->D.rt v H
def tDS (K:gG)(g:DE->gF RD):TS:=λ D σ H=>∃ δ r,Sat K H σ δ/\g δ=My r/\∀ H',gY H H'->Nt K D H' r
variable {st:Stmt}{rest sts:List Stmt}{gs gs':DE->gF RD}{ga:DE->gF Dt}
abbrev PDS (X:Cx)(st:Stmt)(g:DE->gF RD):Prop:=PS X st (tDS X.K g)
abbrev yS (X:Cx)(st:List Stmt)(g:DE->gF RD):Prop:=PSs X st (tDS X.K g)
def kM (g g':DE->gF RD):DE->gF RD:=λ δ=>(g δ).bind λ r=>match r with
 | .nx δ'=>g' δ'
 | .rt d=>My (.rt d)
theorem jr:yS X [] (λ δ=>My (.nx δ)):=lQ.of λ D σ H ⟨δ,r,S,e,q⟩=>by cases e;exact q H (gY.refl H) σ S
theorem iS (h1:PDS X st gs)(h2:yS X rest gs'):yS X (st::rest) (kM gs gs'):=(g0 h1 h2).of λ D σ H hz1=>by
 obtain⟨δ,r,S,e,q⟩:=hz1;obtain⟨r1,e1,e⟩:=gQ e;refine⟨δ,r1,S,e1,λ H1 s1=>?_⟩;cases r1 with
 | nx δ'=>exact λ σ' S'=>⟨δ',r,S',e,λ H2 s2=>q H2 (s1.trans s2)⟩
 | rt d=>cases e;exact q H1 s1
theorem iH (h1:PDS X st gs):yS X [st] gs:=iW h1
def kZ:DE->gF RD:=λ δ=>My (.nx δ)
def lq (i:Nat)(g:DE->gF Dt):DE->gF RD:=λ δ=>(g δ).map λ d=>.nx (δ.set i (My d))
theorem j8 {i:Nat}{x:Str}{pos':Pos}(hN:X.N.Nodup)(he:PD X e ga)(hi:X.N[i]?=My x:=by rfl)(hx:Loc X.env.scope x:=by trivial)(hs:swapsWith e (My (.Name x pos')) pos.line X.env=pure Rn:=by rfl)(hf:X.fn x=Rm\/X.env.scope.names.lookup x=My .local:=by trivial) :
  PDS X (.Assign [.Name x pos'] e pos) (lq i ga):=(iX hN hi hx he hs hf).of λ D σ H hz2=>by
 obtain⟨δ,r,S,e,q⟩:=hz2;obtain⟨d,e1,e⟩:=ir e;subst e;exact⟨δ,d,S,e1,λ v H1 s1 i1=>q H1 s1 _ ((S.ext s1).set i1)⟩
theorem Fv {i:Nat}{x:Str}{px spos:Pos}(hN:X.N.Nodup)(hc:X.calm=Rm)(S:ly X scope own fr ix)(hi:PI X tg iter (iD X.K gi))(hg:∀ C s H fp,PG (X.comp (own++fr) scope C s H fp) tg g)(hgo:BM own.length g)(hgd:GD X.K g gg)
  (ht:∀ C s H fp,PF (X.comp (own++fr) scope C s H fp) ifs (tDT X.K gt)) (he:∀ C s H fp,PE (X.comp (own++fr) scope C s H fp) elt (tD X.K ge)) (hi':X.N[i]?=My x:=by rfl) (hx:Loc X.env.scope x:=by trivial)
  (hsw:swapsWith (.ListComp elt [⟨tg,iter,ifs,0⟩] scope pos) (My (.Name x px)) spos.line X.env=pure Rm:=by rfl) (hf:X.fn x=Rm\/X.env.scope.names.lookup x=My .local:=by trivial) (hs:∀ x,foldedSetIterable iter X.env x=pure x:=by intro _;rfl) :
  PDS X (.Assign [.Name x px] (.ListComp elt [⟨tg,iter,ifs,0⟩] scope pos) spos) (lq i (gLC own ix gi gg gt ge)):=(Kd hN hi' hx hc S hi hg hgo ht he hsw hf hs).of λ D σ H hz3=>by
 obtain⟨δ,r,S,e,q⟩:=hz3;obtain⟨d,e1,e⟩:=ir e;subst e;exact Fu hgd σ H _ ⟨δ,d,S,e1,λ v H1 s1 i1=>q H1 s1 _ ((S.ext s1).set i1)⟩
def Ai (gg:Dt->DE->gF DE)(g:DE->gF Dt):DE->gF RD:=λ δ=>(g δ).bind λ d=>(gg d δ).map .nx
theorem yT (he:PD X e ga)(hg:PG X tg g)(hgd:GD X.K g gg)(hs:swapsWithSole [tg] e pos.line X.env=pure Rn:=by rfl)(hw:swappedStores [tg] e X.env=pure Rl:=by rfl)
  (h1:(assignEach [tg] X.env).map (·.2)=[assign tg X.env]:=by rfl):PDS X (.Assign [tg] e pos) (Ai gg ga):=(yr he hg hs hw h1).of λ D σ H hz4=>by
 obtain⟨δ,r,S,e,q⟩:=hz4;obtain⟨d,e1,e⟩:=gQ e;obtain⟨δ',e2,e⟩:=ir e;subst e;exact⟨δ,d,S,e1,λ v H1 s1 i1=>hgd H1 v d σ δ δ' _ i1 (S.ext s1) e2 λ σ' S'=>q H1 s1 σ' S'⟩
def kN (g:DE->gF Dt):DE->gF RD:=λ δ=>(g δ).map .rt
theorem jb (he:PD X e ga):PDS X (.Return (My e) pos) (kN ga):=(kG he).of λ D σ H hz5=>by obtain⟨δ,r,S,e,q⟩:=hz5;obtain⟨d,e1,e⟩:=ir e;subst e;exact⟨δ,d,S,e1,λ v H1 s1 i1=>q H1 s1 v i1⟩
def oy (gc:DE->gF Bool)(g g':DE->gF RD):DE->gF RD:=λ δ=>(gc δ).bind λ k=>if k=Rm then g δ else g' δ
theorem mw {gc:DE->gF Bool}{sa sb:List Stmt}(hc:PDT X c gc)(ha:yS X sa gs)(hb:yS X sb gs'):PDS X (.If c sa sb pos) (oy gc gs gs'):=(qy hc ha hb).of λ D σ H hz7=>by
 obtain⟨δ,r,S,e,q⟩:=hz7;obtain⟨k,e1,e⟩:=gQ e;refine⟨δ,k,S,e1,λ H1 s1=>?_⟩;cases k with
 | true=>rw[ai rfl]at e ⊢;exact⟨δ,r,S.ext s1,e,λ H2 s2=>q H2 (s1.trans s2)⟩
 | false=>rw[aq au]at e ⊢;exact⟨δ,r,S.ext s1,e,λ H2 s2=>q H2 (s1.trans s2)⟩
def my (gg:Dt->DE->gF DE)(gb:DE->gF RD):DE->List Dt->gF RD
 | δ,[]=>My (.nx δ)
 | δ,d::r=>(gg d δ).bind λ δ'=>(gb δ').bind λ x=>match x with
  | .nx δ''=>my gg gb δ'' r
  | .rt v=>My (.rt v)
def BQ (gi:DE->gF (List Dt))(gg:Dt->DE->gF DE)(gb:DE->gF RD):DE->gF RD:=λ δ=>(gi δ).bind λ ds=>my gg gb δ ds
theorem BR {body:List Stmt}(hp:PassesOwn (model X.prog X.w) X.A X.env X.xe)(hc:X.calm=Rm)(hi:PI X tg iter (iD X.K gi))(hg:PG X tg g)(hgd:GD X.K g gg)(hb:yS X body gs)
  (hs:∀ x,foldedSetIterable iter X.env x=pure x:=by intro _;rfl):PDS X (.For tg iter body [] pos) (BQ gi gg gs):=(mQ hp hc hi hg hb hs).of λ D σ H hz8=>by
 obtain⟨δ,r,S,e,q⟩:=hz8;obtain⟨ds,e1,e⟩:=gQ e;refine⟨δ,ds,S,e1,λ J H1 s1 ok=>?_⟩;refine⟨λ i m σ' H'=>m=ds.length-i/\i<=ds.length/\gY H1 H'/\∃ δ',Sat X.K H' σ' δ'/\my gg gs δ' (ds.drop i)=My r,⟨_,rfl,aQ _,gY.refl _,δ,S.ext s1,by simpa using e⟩,?_⟩;rintro i m σ' H' ⟨rfl,hi,s2,δ',S',e3⟩;obtain⟨items,stop⟩:=ok H' s2;by_cases hlt:i<ds.length
 ·right
  have hdi:ds[i]?=My ds[i]:=by simp[hlt]
  obtain⟨go,yld⟩:=items i _ hdi;rw[cJ hlt]at e3;obtain⟨δ1,f1,e3⟩:=gQ (show(gg ds[i] δ').bind _=_ from e3);obtain⟨x,f2,e3⟩:=gQ e3;refine⟨go,λ σ2 H2=>∃ δ2,x=.nx δ2/\gY H1 H2/\Sat X.K H2 σ2 δ2,?_,λ v H'' hyl=>?_⟩
  ·rintro σ2 H2 ⟨δ2,rfl,s5,S5⟩;exact⟨_,by lia,rfl,hlt,s5,δ2,S5,e3⟩
  ·obtain⟨s3,iv⟩:=yld v H'' hyl
   refine hgd H'' v ds[i] σ' δ' δ1 _ iv (S'.ext s3) f1 λ σ2 S2=>⟨δ1,x,S2,f2,λ H3 s4=>?_⟩;cases x with
   | nx δ2=>exact λ σ3 S3=>⟨δ2,rfl,(s2.trans s3).trans s4,S3⟩
   | rt d=>cases e3;exact q H3 (((s1.trans s2).trans s3).trans s4)
 ·left
  have hi:i=ds.length:=by lia
  subst hi;rw[fe]at e3;cases e3;exact⟨stop,q H' (s1.trans s2) σ' S'⟩
end
def LC:RD->Dt
 | .rt d=>d
 | .nx _=>.non
def qQ (N:List Str)(ds:List Dt):DE:=ds.map My++Rp (N.length-ds.length) Rl
section
variable {P:Program}{w:World}{K:gG}{mg:gD}{base:Heap}
theorem Fun.okD {x qual:Str}{st:Stmt}{f:Addr}{fd:FuncData}{N ps:List Str}{k:Nat}{fD:List Dt->gF Dt}{g:DE->gF RD}(F:Fun K x qual st f fd)(S:iI N ps (gZ st))
  (hbody:∀ (cdv:gH) (A:Around) (outer:List Env) (s:gJ) (H:Hp) (E:XK),jt k (A.deeper (envOfC qual (gZ st) s.heap.objs.size f cdv)) ->
   PSs (pj CX0 P w K mg base N qual (gZ st) f cdv A outer s H E).nox (iL st) (tDS K g))
  (hg:∀ ds d,ds.length=ps.length->fD ds=My d->∃ r,g (qQ N ds)=My r/\LC r=d):pE P w K mg base CX0 (k+1) f fd ps (spD K ps.length fD):=by
 refine F.ok S (λ vs H Q E h=>?_) (λ cdv A outer s H vs Q E hr h=>?_)
 ·obtain⟨ds,d,hl,is,_⟩:=h;rw[is.length,hl]
 ·obtain⟨ds,d,hl,is,e,q⟩:=h
  obtain⟨r,e1,e2⟩:=hg ds d hl e;refine⟨_,hbody cdv A outer s H E hr,qQ N ds,r,is.start,e1,λ H' s'=>?_⟩;cases r with
  | nx δ=>subst e2;exact λ σ _=>q _ H' s' .non
  | rt d'=>subst e2;exact λ v iv=>q v H' s' iv
end
section
variable {X:Cx}{e a b c:Expr}{es:List Expr}{pos:Pos}
theorem opD {f:gH->gH->Sem gH}{r:R2}{fD:Dt->Dt->gF Dt}(h:OpR X f r)(w:∀ x y H Q dx dy d,Is X.K H x dx->Is X.K H y dy->fD dx dy=My d->(∀ v H',gY H H'->Is X.K H' v d->Q v H')->r x y H Q):OpR X f (rD X.K fD) :=
 λ pins s σ H x y v u Q I rx ry ⟨dx,dy,d,i1,i2,e,q⟩=>h pins s σ H x y v u Q I rx ry (w x y H Q dx dy d i1 i2 e q)
theorem xU {f:gH}{r:List V->Hp->VK->Prop}{fD:List Dt->gF Dt}(h:jq X f r)(w:∀ xs H Q ds d,Iss X.K H xs ds->fD ds=My d->(∀ v H',gY H H'->Is X.K H' v d->Q v H')->r xs H Q):jq X f (cD X.K fD) :=
 λ pins s σ H xs us Q I rx ⟨ds,d,i1,e,q⟩=>h pins s σ H xs us Q I rx (w xs H Q ds d i1 e q)
def dI (g:Int->Int->Int):Dt->Dt->gF Dt
 | .int i,.int j=>My (.int (g i j))
 | _,_=>Rl
def dIB (g:Int->Int->Bool):Dt->Dt->gF Dt
 | .int i,.int j=>My (.bl (g i j))
 | _,_=>Rl
def bd (i:Int):Prop:=i.natAbs<2 ^ 4000
instance (i:Int):Decidable (bd i):=inferInstanceAs (Decidable (i.natAbs<2 ^ 4000))
theorem LD {g:Int->Int->Int}{x y d:Dt}(h:dI g x y=My d):∃ i j,x=.int i/\y=.int j/\d=.int (g i j):=by
 cases x with
 | int i=>cases y with
  | int j=>exact⟨_,_,rfl,rfl,(ak h).symm⟩
  | _=>cases h
 | _=>cases h
theorem Ig {g:Int->Int->Bool}{x y d:Dt}(h:dIB g x y=My d):∃ i j,x=.int i/\y=.int j/\d=.bl (g i j):=by
 cases x with
 | int i=>cases y with
  | int j=>exact⟨_,_,rfl,rfl,(ak h).symm⟩
  | _=>cases h
 | _=>cases h
theorem oI0 {f:gH->gH->Sem gH}{g:Int->Int->Int}(h:OpR X f (rI0 λ i j=>.int (g i j))):OpR X f (rD X.K (dI g)):=opD h λ x y H Q dx dy d i1 i2 e q=>by obtain⟨i,j,rfl,rfl,rfl⟩:=LD e;exact⟨i,j,i1.int_inv,i2.int_inv,q _ H (gY.refl H) (.int _)⟩
theorem oB0 {f:gH->gH->Sem gH}{g:Int->Int->Bool}(h:OpR X f (rI0 λ i j=>.bl (g i j))):OpR X f (rD X.K (dIB g)):=opD h λ x y H Q dx dy d i1 i2 e q=>by obtain⟨i,j,rfl,rfl,rfl⟩:=Ig e;exact⟨i,j,i1.int_inv,i2.int_inv,q _ H (gY.refl H) (.bl _)⟩
theorem qC:OpR X (binaryOp .Add) (rD X.K (dI (·+·))):=oI0 pD
theorem Nu:OpR X (binaryOp .Sub) (rD X.K (dI (·-·))):=oI0 yt
theorem Ih:OpR X (compareOp .Lt) (rD X.K (dIB λ i j=>decide (i<j))):=oB0 JW
theorem Aj:OpR X (compareOp .LtE) (rD X.K (dIB λ i j=>decide (i<=j))):=oB0 Na
mutual
inductive Sh:Dt->Dt->Prop
 | int (i j:Int):Sh (.int i) (.int j)
 | bl (i j:Bool):Sh (.bl i) (.bl j)
 | str (i j:Str):Sh (.str i) (.str j)
 | tup {ds es:List Dt}:Shs ds es->Sh (.tup ds) (.tup es)
inductive Shs:List Dt->List Dt->Prop
 | nil (es:List Dt):Shs [] es
 | Q9 (es:List Dt):Shs es []
 | cons {d e:Dt} {ds es:List Dt}:Sh d e->Shs ds es->Shs (d::ds) (e::es)
end
mutual
def dEq:Dt->Dt->Bool
 | .int i,.int j=>i==j
 | .bl i,.bl j=>i==j
 | .str i,.str j=>i==j
 | .tup ds,.tup es=>mi ds es
 | _,_=>Rn
def mi:List Dt->List Dt->Bool
 | [],[]=>Rm
 | d::ds,e::es=>dEq d e&&mi ds es
 | _,_=>Rn
end
def sh1:Dt->Dt->Bool
 | .int _,.int _=>Rm
 | .bl _,.bl _=>Rm
 | .str _,.str _=>Rm
 | _,_=>Rn
def rN:List Dt->List Dt->Bool
 | d::ds,e::es=>sh1 d e&&rN ds es
 | _,_=>Rm
def sh2:Dt->Dt->Bool
 | .tup ds,.tup es=>rN ds es
 | d,e=>sh1 d e
def yU:List Dt->List Dt->Bool
 | d::ds,e::es=>sh2 d e&&yU ds es
 | _,_=>Rm
def sh3:Dt->Dt->Bool
 | .tup ds,.tup es=>yU ds es
 | d,e=>sh1 d e
theorem xg (e:Nat->Bool):∀ (n:Nat),(Ro (n+1)).all e=(e 0&&(Ro n).all λ i=>e (i+1)):=λ n=>by rw[List.range_succ_eq_map,List.all_cons,eV];rfl
def eAt (ds es:List Dt)(j:Nat):Bool:=match ds[j]?,es[j]? with
 | some d,My e=>dEq d e
 | _,_=>Rn
theorem CU:∀ (ds es:List Dt),((Ro (min ds.length es.length)).all (eAt ds es)&&ds.length==es.length)=mi ds es
 | [],[]=>rfl
 | [],e::es=>by simp[mi]
 | d::ds,[]=>by simp[mi]
 | d::ds,e::es=>by
  have ih:=CU ds es;rw[mi,<-ih];simp only[bX];rw[Nat.succ_min_succ,xg];have:(λ i=>eAt (d::ds) (e::es) (i+1))=eAt ds es:=by funext i;simp[eAt]
  rw[this];have h0:eAt (d::ds) (e::es) 0=dEq d e:=rfl;rw[h0,Bool.and_assoc];congr 2;simp
variable {pins:gL}{σ:St}{H:Hp}{s:gJ}
theorem Iss.vals {xs:List V}{ds:List Dt}(I:Inv X pins σ H s)(is:Iss X.K H xs ds){its:List gH}(r:Vals xs its){j:Nat}{d:Dt}(h:ds[j]?=My d):∃ v u,its[j]?=My u/\RelV v u/\Is X.K H v d:=by obtain⟨v,hv,iv⟩:=is.get h;obtain⟨u,hu,ru⟩:=r.get hv;exact⟨v,u,hu,ru,iv⟩
end
open PySem.SeqAt
section
variable {X:Cx}{e a b c:Expr}{es:List Expr}{pos:Pos}{pins:gL}{σ:St}{H:Hp}{s:gJ}
theorem yV {i j:Int}:dEq (.int i) (.int j)=(i==j):=by simp[dEq]
theorem Fw {i j:Bool}:dEq (.bl i) (.bl j)=(i==j):=by simp[dEq]
theorem yW {i j:Str}:dEq (.str i) (.str j)=(i==j):=by simp[dEq]
theorem yX {i j:List Dt}:dEq (.tup i) (.tup j)=mi i j:=by simp[dEq]
theorem Ak {A:Around}{d d':Dt}{v v':V}{u u':gH}(sh:sh1 d d'=Rm)(i:Is X.K H v d)(i':Is X.K H v' d')(r:RelV v u)(r':RelV v' u'):EqAt A s u u' (dEq d d'):=by
 cases d<;>cases d'<;>simp[sh1]at sh
 ·rw[i.jk]at r;rw[i'.jk]at r';cases r;cases r';rw[Fw];exact EqAt.bool_bool _ _
 ·rw[i.int_inv]at r;rw[i'.int_inv]at r';obtain⟨t,rfl⟩:=r;obtain⟨t',rfl⟩:=r';rw[yV];exact EqAt.int_int _ _ _ _
 ·rw[i.str_inv]at r;rw[i'.str_inv]at r';obtain⟨t,rfl⟩:=r;obtain⟨t',rfl⟩:=r';rw[yW];exact EqAt.str_str _ _ _ _
theorem Nv {d d':Dt}{v:V}(sh:sh1 d d'=Rm)(i:Is X.K H v d)(i':Is X.K H v d'):dEq d d'=Rm:=by
 cases d<;>cases d'<;>simp[sh1]at sh
 ·have:=i.jk.symm.trans i'.jk;cases this;simp[dEq]
 ·have:=i.int_inv.symm.trans i'.int_inv;cases this;simp[dEq]
 ·have:=i.str_inv.symm.trans i'.str_inv;cases this;simp[dEq]
theorem Fx:∀ {ds es:List Dt} {vs:List V},rN ds es=Rm->Iss X.K H vs ds->Iss X.K H vs es->mi ds es=Rm
 | [],[],_,_,_,_=>by simp[mi]
 | [],e::es,_,_,i,j=>by cases i;cases j
 | d::ds,[],_,_,i,j=>by cases j;cases i
 | d::ds,e::es,_,h,i,j=>by
  cases i with
  | cons i1 i2 =>
   cases j with
   | cons j1 j2 =>rw[rN,aU]at h;rw[mi,Nv h.1 i1 j1,Fx h.2 i2 j2];rfl
theorem pN:∀ {ds es:List Dt},rN ds es=Rm->∀ {j:Nat} {d e:Dt},ds[j]?=My d->es[j]?=My e->sh1 d e=Rm
 | [],_,_,j,d,e,h,_=>by simp at h
 | _::_,[],_,j,d,e,_,h=>by simp at h
 | d::ds,e::es,h,0,_,_,h1,h2=>by rw[rN,aU]at h;simp at h1 h2;subst h1;subst h2;exact h.1
 | d::ds,e::es,h,j+1,_,_,h1,h2=>by rw[rN,aU]at h;exact pN h.2 (by simpa using h1) (by simpa using h2)
theorem rO:∀ {ds es:List Dt},yU ds es=Rm->∀ {j:Nat} {d e:Dt},ds[j]?=My d->es[j]?=My e->sh2 d e=Rm
 | [],_,_,j,d,e,h,_=>by simp at h
 | _::_,[],_,j,d,e,_,h=>by simp at h
 | d::ds,e::es,h,0,_,_,h1,h2=>by rw[yU,aU]at h;simp at h1 h2;subst h1;subst h2;exact h.1
 | d::ds,e::es,h,j+1,_,_,h1,h2=>by rw[yU,aU]at h;exact rO h.2 (by simpa using h1) (by simpa using h2)
theorem oz {A:Around}{ds es:List Dt}{xs ys:List V}{its its':List gH}(is:Iss X.K H xs ds)(js:Iss X.K H ys es)(r:Vals xs its)(r':Vals ys its')
  (h:∀ {j:Nat} {d e:Dt} {v v':V} {u u':gH},ds[j]?=My d->es[j]?=My e->Is X.K H v d->Is X.K H v' e->RelV v u->RelV v' u'->EqAt A s u u' (dEq d e)) :
  ∀ j (h1:j<its.toArray.size) (h2:j<its'.toArray.size),EqAt A s its.toArray[j] its'.toArray[j] (eAt ds es j):=by
 intro j h1 h2;have l1:=is.length;have l2:=js.length;have l3:=r.length;have l4:=r'.length;simp only[ao]at h1 h2;have hd:ds[j]?=My (ds[j]'(by lia)):=by simp[show j<ds.length by lia]
 have he:es[j]?=My (es[j]'(by lia)):=by simp[show j<es.length by lia]
 obtain⟨v,hv,iv⟩:=is.get hd;obtain⟨v',hv',iv'⟩:=js.get he;obtain⟨u,hu,ru⟩:=r.get hv;obtain⟨u',hu',ru'⟩:=r'.get hv';have e1:its[j]=u:=by rw[aG h1]at hu;exact ak hu
 have e2:its'[j]=u':=by rw[aG h2]at hu';exact ak hu'
 have e3:eAt ds es j=dEq (ds[j]'(by lia)) (es[j]'(by lia)):=by unfold eAt;rw[hd,he]
 rw[e3];simp only[List.getElem_toArray,e1,e2];exact h hd he iv iv' ru ru'
theorem mV {ds es:List Dt}{xs ys:List V}{its its':List gH}(is:Iss X.K H xs ds)(js:Iss X.K H ys es)(r:Vals xs its)(r':Vals ys its') :
  ((Ro (min its.toArray.size its'.toArray.size)).all (eAt ds es)&&its.toArray.size==its'.toArray.size)=mi ds es:=by
 rw[<-CU,ao,ao,<-r.length,<-r'.length,is.length,js.length]
theorem Ii {d d':Dt}(sh:sh2 d d'=Rm)(ht:¬ ∃ ds es,d=.tup ds/\d'=.tup es):sh1 d d'=Rm:=by
 cases d with
 | tup ds=>cases d' with
  | tup es=>exact(ht ⟨_,_,rfl,rfl⟩).elim
  | _=>exact sh
 | _=>exact sh
theorem CV {d d':Dt}(sh:sh3 d d'=Rm)(ht:¬ ∃ ds es,d=.tup ds/\d'=.tup es):sh1 d d'=Rm:=by
 cases d with
 | tup ds=>cases d' with
  | tup es=>exact(ht ⟨_,_,rfl,rfl⟩).elim
  | _=>exact sh
 | _=>exact sh
theorem CW {A:Around}(I:Inv X pins σ H s)(hu:A.units<cLine){d d':Dt}{v v':V}{u u':gH}(sh:sh2 d d'=Rm)(i:Is X.K H v d)(i':Is X.K H v' d')(r:RelV v u)(r':RelV v' u'):EqAt A s u u' (dEq d d'):=by
 by_cases ht:∃ ds es,d=.tup ds/\d'=.tup es
 ·obtain⟨ds,es,rfl,rfl⟩:=ht
  obtain⟨p,xs,rfl,hp,is⟩:=i.ip;obtain⟨q,ys,rfl,hq,js⟩:=i'.ip;cases r;cases r';have sh:rN ds es=Rm:=sh;rw[yX];by_cases hpq:p=q
  ·subst hpq;have:=I.sX hp hq;subst this;rw[Fx sh is js];exact EqAt.same _
  ·obtain⟨its,rv,t1,_⟩:=I.tuple hp
   obtain⟨its',rv',t2,_⟩:=I.tuple hq;refine EqAt.of_refs hpq ?_;have:=RcAt.tuples (A:=A) (s:=s) (l:=p) (b:=q) (items:=its.toArray) (items2:=its'.toArray) (e:=eAt ds es) t1 t2 hu
    (oz is js rv rv' λ h1 h2 i1 i2 r1 r2=>Ak (pN sh h1 h2) i1 i2 r1 r2)
   rw[mV is js rv rv']at this;exact this
 ·have sh:=Ii sh ht;exact Ak sh i i' r r'
def rP:Dt->Dt->gF Dt:=λ d d'=>if sh3 d d'=Rm then My (.bl (dEq d d')) else Rl
def oA:Dt->Dt->gF Dt:=λ d d'=>if sh3 d d'=Rm then My (.bl (!dEq d d')) else Rl
theorem Fy {d d' r:Dt}(h:rP d d'=My r):sh3 d d'=Rm/\r=.bl (dEq d d'):=by
 unfold rP at h;split at h
 ·cases h;exact⟨by assumption,rfl⟩
 ·cases h
theorem Fz {d d' r:Dt}(h:oA d d'=My r):sh3 d d'=Rm/\r=.bl (!dEq d d'):=by
 unfold oA at h;split at h
 ·cases h;exact⟨by assumption,rfl⟩
 ·cases h
theorem CY {d d':Dt}{v v':V}(sh:sh1 d d'=Rm)(i:Is X.K H v d)(i':Is X.K H v' d'):K2 v v'=Rm/\decide (v=v')=dEq d d':=by
 cases d with
 | bl b=>cases d' with
  | bl c=>rw[i.jk,i'.jk,Fw];exact⟨rfl,Bl⟩
  | _=>cases sh
 | int b=>cases d' with
  | int c=>rw[i.int_inv,i'.int_inv,yV];exact⟨rfl,yw⟩
  | _=>cases sh
 | str b=>cases d' with
  | str c=>rw[i.str_inv,i'.str_inv,yW];exact⟨rfl,yy⟩
  | _=>cases sh
 | _=>cases sh
theorem FA (hu:X.A.units+2<cLine):OpR X (compareOp .Eq) (rD X.K rP):=by
 intro pins s σ H x y v u Q I rx ry ⟨d,d',r,i,i',e,q⟩;obtain⟨sh,rfl⟩:=Fy e;by_cases ht:∃ ds es,d=.tup ds/\d'=.tup es
 ·obtain⟨ds,es,rfl,rfl⟩:=ht;obtain⟨p,xs,rfl,hp,is⟩:=i.ip;obtain⟨p',ys,rfl,hq,js⟩:=i'.ip;cases rx;cases ry;have sh:yU ds es=Rm:=sh;obtain⟨its,rv,t1,_⟩:=I.tuple hp;obtain⟨its',rv',t2,_⟩:=I.tuple hq;refine eq_tupleAt (e:=eAt ds es) t1 t2 (by lia) (oz is js rv rv' λ h1 h2 i1 i2 r1 r2=>CW I (by show X.A.units+1<cLine;lia) (rO sh h1 h2) i1 i2 r1 r2) ?_;rw[mV is js rv rv'];exact⟨.bl _,H,I,rfl,q _ H (gY.refl H) (by rw[yX];exact .bl _)⟩
 ·have sh:=CV sh ht;obtain⟨s1,s2⟩:=CY sh i i';exact JU pins s σ H x y v u Q I rx ry ⟨s1,by rw[s2];exact q _ H (gY.refl H) (.bl _)⟩
theorem xh (hu:X.A.units+2<cLine):OpR X (compareOp .NotEq) (rD X.K oA):=by
 intro pins s σ H x y v u Q I rx ry ⟨d,d',r,i,i',e,q⟩;obtain⟨sh,rfl⟩:=Fz e;by_cases ht:∃ ds es,d=.tup ds/\d'=.tup es
 ·obtain⟨ds,es,rfl,rfl⟩:=ht;obtain⟨p,xs,rfl,hp,is⟩:=i.ip;obtain⟨p',ys,rfl,hq,js⟩:=i'.ip;cases rx;cases ry;have sh:yU ds es=Rm:=sh;obtain⟨its,rv,t1,_⟩:=I.tuple hp;obtain⟨its',rv',t2,_⟩:=I.tuple hq;have:=RcNeAt.tuples (A:=X.A) (s:=s) (l:=p) (b:=p') (items:=its.toArray) (items2:=its'.toArray) (e:=eAt ds es) t1 t2 (by lia) (oz is js rv rv' λ h1 h2 i1 i2 r1 r2=>CW I (by show X.A.units+1<cLine;lia) (rO sh h1 h2) i1 i2 r1 r2);rw[mV is js rv rv']at this;exact this X.prog X.w X.xe _ ⟨.bl _,H,I,rfl,q _ H (gY.refl H) (by rw[yX];exact .bl _)⟩
 ·have sh:=CV sh ht;obtain⟨s1,s2⟩:=CY sh i i';exact JV pins s σ H x y v u Q I rx ry ⟨s1,by rw[s2];exact q _ H (gY.refl H) (.bl _)⟩
def BS:Dt->Dt->gF Dt
 | .bl i,.bl j=>My (.bl (i==j))
 | _,_=>Rl
def vK:Dt->Dt->gF Dt
 | .bl i,.bl j=>My (.bl (i != j))
 | _,_=>Rl
theorem FC {x y d:Dt}(h:BS x y=My d):∃ i j,x=.bl i/\y=.bl j/\d=.bl (i==j):=by
 cases x with
 | bl i=>cases y with
  | bl j=>exact⟨_,_,rfl,rfl,(ak h).symm⟩
  | _=>cases h
 | _=>cases h
theorem DN {x y d:Dt}(h:vK x y=My d):∃ i j,x=.bl i/\y=.bl j/\d=.bl (i != j):=by
 cases x with
 | bl i=>cases y with
  | bl j=>exact⟨_,_,rfl,rfl,(ak h).symm⟩
  | _=>cases h
 | _=>cases h
theorem Kj:OpR X (compareOp .Is) (rD X.K BS):=by intro pins s σ H x y v u Q I rx ry ⟨d,d',r,i,i',e,q⟩;obtain⟨b,c,rfl,rfl,rfl⟩:=FC e;rw[i.jk]at rx;rw[i'.jk]at ry;cases rx;cases ry;exact is_bool ⟨.bl _,H,I,rfl,q _ H (gY.refl H) (.bl _)⟩
theorem FD:OpR X (compareOp .IsNot) (rD X.K vK):=by intro pins s σ H x y v u Q I rx ry ⟨d,d',r,i,i',e,q⟩;obtain⟨b,c,rfl,rfl,rfl⟩:=DN e;rw[i.jk]at rx;rw[i'.jk]at ry;cases rx;cases ry;exact isnot_bool ⟨.bl _,H,I,rfl,q _ H (gY.refl H) (.bl _)⟩
def uB:Dt->gF Int
 | .int i=>My i
 | _=>Rl
def nu:List Dt->gF (List Int)
 | []=>My []
 | d::ds=>(uB d).bind λ i=>(nu ds).map (i::·)
theorem lX {d:Dt}{i:Int}(h:uB d=My i):d=.int i:=by cases d<;>simp[uB]at h;rw[h]
theorem mL:∀ {ds:List Dt} {l:List Int},nu ds=My l->ds=l.map .int
 | [],l,h=>by cases h;rfl
 | d::ds,l,h=>by obtain⟨i,e1,h⟩:=gQ h;obtain⟨r,e2,h⟩:=ir h;subst h;rw[lX e1,mL e2];rfl
@[simp] theorem qh (l:List Int):nu (l.map .int)=My l:=by
 induction l with
 | nil=>rfl
 | cons i r ih=>show(My i).bind (λ i=>(nu (r.map .int)).map (i::·))=_;rw[ih];rfl
def FE:Dt->Dt->gF Dt
 | .tup ds,.tup es=>(nu ds).bind λ ns=>(nu es).map λ ms=>.bl (HT.lexLt ns ms)
 | _,_=>Rl
theorem FF {x y d:Dt}(e:FE x y=My d):∃ ns ms:List Int,x=.tup (ns.map .int)/\y=.tup (ms.map .int)/\d=.bl (HT.lexLt ns ms):=by
 cases x with
 | tup ds=>cases y with
  | tup es =>obtain⟨ns,e1,e⟩:=gQ (show(nu ds).bind _=_ from e);obtain⟨ms,e2,e⟩:=ir e;exact⟨ns,ms,by rw[mL e1],by rw[mL e2],e.symm⟩
  | _=>cases e
 | _=>cases e
theorem Nw (hu:X.A.units<cLine):OpR X (compareOp .Lt) (rD X.K FE):=opD (Lb hu) λ x y H Q dx dy d i1 i2 e q=>by obtain⟨ns,ms,rfl,rfl,rfl⟩:=FF e;obtain⟨a,xs,rfl,ha,is⟩:=i1.ip;obtain⟨b,ys,rfl,hb,js⟩:=i2.ip;rw[is.ints]at ha;rw[js.ints]at hb;exact⟨a,b,ns,ms,rfl,rfl,ha,hb,q _ H (gY.refl H) (.bl _)⟩
end
section
variable {X:Cx}{e a b c:Expr}{es:List Expr}{pos:Pos}{pins:gL}{σ:St}{H:Hp}{s:gJ}
def dIx:Dt->Dt->gF Dt
 | .tup ds,.int i=>atI ds i
 | .lst ds,.int i=>atI ds i
 | _,_=>Rl
theorem Iss.atI {K:gG}{xs:List V}{ds:List Dt}{i:Int}{d:Dt}(is:Iss K H xs ds)(h:atI ds i=My d):∃ v,L2.atI xs i=My v/\Is K H v d:=by unfold L2.atI at h ⊢;obtain⟨j,e1,e2⟩:=gQ h;obtain⟨v,hv,iv⟩:=is.get e2;exact⟨v,by rw[is.length,e1];exact hv,iv⟩
theorem Ij {d d' r:Dt}(e:dIx d d'=My r):∃ l k,(d=.tup l\/d=.lst l)/\d'=.int k/\L2.atI l k=My r:=by
 cases d with
 | tup l=>cases d' with
  | int k=>exact⟨l,k,.inl rfl,rfl,e⟩
  | _=>cases e
 | lst l=>cases d' with
  | int k=>exact⟨l,k,.inr rfl,rfl,e⟩
  | _=>cases e
 | _=>cases e
theorem Px:IxR X (rD X.K dIx):=by
 intro value slice pins s σ H x y v u Q I rx ry ⟨d,d',r,i,i',e,q⟩ hs;obtain⟨l,k,hd,rfl,e⟩:=Ij e;rcases hd with rfl | rfl
 ·obtain⟨p,xs,rfl,hp,is⟩:=i.ip;obtain⟨w,hw,iw⟩:=is.atI e;exact qM value slice pins s σ H _ y v u Q I rx ry ⟨p,xs,_,w,rfl,i'.int_inv,hp,hw,q _ H (gY.refl H) iw⟩ hs
 ·obtain⟨p,xs,rfl,hp,is⟩:=i.lst_inv;obtain⟨w,hw,iw⟩:=is.atI e;exact kz value slice pins s σ H _ y v u Q I rx ry ⟨p,xs,_,w,rfl,i'.int_inv,SqL.of hp,hw,q _ H (gY.refl H) iw⟩ hs
theorem mW {ga gb:DE->gF Dt}(ha:PD X a ga)(hb:PD X b gb)(hs:Cw b:=by exact λ _ _=>rfl):PD X (.Subscript a b pos) (hU dIx ga gb):=(lu Px ha hb hs).of yL
def QB:Dt->gF Dt
 | .tup (_::ds)=>My (.tup ds)
 | _=>Rl
theorem DO {x:V}{xs:List V}:uy (x::xs) (My 1) Rl=xs:=by
 unfold uy;have e1:HT.sIx (x::xs).length 0 (My 1)=1:=by have:=HT.nc (x::xs).length 0 1;rw[show((1:Nat):Int)=1 from rfl]at this;rw[this];simp
 rw[e1,HT.vf];simp
def qu:Dt->Dt->gF Dt
 | .lst ds,.lst es=>if ds.length+es.length<=1000 then My (.lst (ds++es)) else Rl
 | _,_=>Rl
theorem FG {x y d:Dt}(e:qu x y=My d):∃ ds es,x=.lst ds/\y=.lst es/\ds.length+es.length<=1000/\d=.lst (ds++es):=by
 cases x with
 | lst ds=>cases y with
  | lst es =>
   have e:(if ds.length+es.length<=1000 then My (Dt.lst (ds++es)) else Rl)=My d:=e;by_cases hl:ds.length+es.length<=1000
   ·rw[ai hl]at e;exact⟨_,_,rfl,rfl,hl,(ak e).symm⟩
   ·rw[aq hl]at e;cases e
  | _=>cases e
 | _=>cases e
theorem o8:OpR X (binaryOp .Add) (rD X.K qu):=opD Lf λ x y H Q dx dy d i1 i2 e q=>by obtain⟨ds,es,rfl,rfl,hl,rfl⟩:=FG e;obtain⟨a,xs,rfl,ha,is⟩:=i1.lst_inv;obtain⟨b,ys,rfl,hb,js⟩:=i2.lst_inv;exact⟨a,b,xs,ys,rfl,rfl,ha,hb,qg (by rw[is.length,js.length];exact hl),λ p hp=>q _ _ (gY.upd hp) (.lst gW ((is.append js).ext (gY.upd hp)))⟩
def Al:Dt->Dt->gF Dt
 | .lst [d],.int k=>if 0<=k/\k<=1000 then My (.lst (Rp k.toNat d)) else Rl
 | _,_=>Rl
theorem Am {α:Type}(x:α):∀ n,(Rp n [x]).flatten=Rp n x
 | 0=>rfl
 | n+1=>by rw[cF,dX,Am x n];rfl
theorem Iss.rep {K:gG}{v:V}{d:Dt}(h:Is K H v d):∀ n,Iss K H (Rp n v) (Rp n d)
 | 0=>.nil
 | n+1=>.cons h (Iss.rep h n)
theorem FI {x y d:Dt}(e:Al x y=My d):∃ d0 k,x=.lst [d0]/\y=.int k/\(0<=k/\k<=1000)/\d=.lst (Rp k.toNat d0):=by
 cases x with
 | lst ds=>cases ds with
  | nil=>cases e
  | cons d0 r=>cases r with
   | cons _ _=>cases e
   | nil=>cases y with
    | int k =>
     have e:(if 0<=k/\k<=1000 then My (Dt.lst (Rp k.toNat d0)) else Rl)=My d:=e;by_cases hk:0<=k/\k<=1000
     ·rw[ai hk]at e;exact⟨_,_,rfl,rfl,hk,(ak e).symm⟩
     ·rw[aq hk]at e;cases e
    | _=>cases e
 | _=>cases e
theorem FJ:OpR X (binaryOp .Mult) (rD X.K Al):=opD EO λ x y H Q dx dy d i1 i2 e q=>by
 obtain⟨d0,k,rfl,rfl,hk,rfl⟩:=FI e;obtain⟨a,xs,rfl,ha,is⟩:=i1.lst_inv;cases is with
 | cons j1 j2 =>cases j2;refine⟨a,k,_,rfl,i2.int_inv,ha,by lia,by lia,qg (by simp;lia),λ p hp=>q _ _ (gY.upd hp) (.lst gW ?_)⟩;rw[Am];exact(Iss.rep j1 _).ext (gY.upd hp)
theorem Iss.one {K:gG}{xs:List V}{d:Dt}(h:Iss K H xs [d]):∃ v,xs=[v]/\Is K H v d:=by
 cases h with
 | cons h1 h2=>cases h2;exact⟨_,rfl,h1⟩
theorem Iss.two {K:gG}{xs:List V}{d d':Dt}(h:Iss K H xs [d,d']):∃ v v',xs=[v,v']/\Is K H v d/\Is K H v' d':=by
 cases h with
 | cons h1 h2=>obtain⟨v',rfl,h3⟩:=h2.one;exact⟨_,_,rfl,h1,h3⟩
def tN (F:Dt->gF Dt):List Dt->gF Dt
 | [x]=>F x
 | _=>Rl
@[simp] theorem Ny (F:Dt->gF Dt) (x:Dt):tN F [x]=F x:=rfl
theorem kf {F:Dt->gF Dt}{ds:List Dt}{d:Dt}(e:tN F ds=My d):∃ x,ds=[x]/\F x=My d:=by
 cases ds with
 | nil=>cases e
 | cons x r=>cases r with
  | nil=>exact⟨x,rfl,e⟩
  | cons _ _=>cases e
def BU (F:Dt->Dt->gF Dt):List Dt->gF Dt
 | [x,y]=>F x y
 | _=>Rl
@[simp] theorem Nz (F:Dt->Dt->gF Dt) (x y:Dt):BU F [x,y]=F x y:=rfl
theorem nN {F:Dt->Dt->gF Dt}{ds:List Dt}{d:Dt}(e:BU F ds=My d):∃ x y,ds=[x,y]/\F x y=My d:=by
 cases ds with
 | nil=>cases e
 | cons x r=>cases r with
  | nil=>cases e
  | cons y z=>cases z with
   | nil=>exact⟨x,y,rfl,e⟩
   | cons _ _=>cases e
def FK:Dt->gF (List Dt)
 | .tup ds=>My ds
 | .lst ds=>My ds
 | _=>Rl
theorem rQ {x:Dt}{l:List Dt}(e:FK x=My l):x=.tup l\/x=.lst l:=by
 cases x with
 | tup ds=>exact .inl (by rw[ak e])
 | lst ds=>exact .inr (by rw[ak e])
 | _=>cases e
def qv:List Dt->gF Dt:=tN λ x=>(FK x).map λ ds=>.int ds.length
theorem An:jq X (.builtin "len") (cD X.K qv):=xU lx λ xs H Q ds d is e q=>by
 obtain⟨x,rfl,e⟩:=kf e;obtain⟨l,e0,rfl⟩:=ir e;obtain⟨v,rfl,i⟩:=is.one;rcases rQ e0 with rfl | rfl
 ·obtain⟨a,ys,rfl,ha,js⟩:=i.ip;exact⟨a,ys,rfl,.inr ha,by rw[js.length];exact q _ H (gY.refl H) (.int _)⟩
 ·obtain⟨a,ys,rfl,ha,js⟩:=i.lst_inv;exact⟨a,ys,rfl,.inl (SqL.of ha),by rw[js.length];exact q _ H (gY.refl H) (.int _)⟩
def BV:Dt->gF (List Dt)
 | .tup ds=>My ds
 | _=>Rl
theorem nO {x:Dt}{l:List Dt}(e:BV x=My l):x=.tup l:=by
 cases x with
 | tup ds=>rw[ak e]
 | _=>cases e
def pr2:List Dt->gF (Int×Int)
 | [x,y]=>(uB x).bind λ a=>(uB y).map λ b=>(a,b)
 | _=>Rl
theorem CZ {l:List Dt}{t:Int×Int}(e:pr2 l=My t):l=[.int t.1,.int t.2]:=by
 cases l with
 | nil=>cases e
 | cons x r=>cases r with
  | nil=>cases e
  | cons y z=>cases z with
   | cons _ _=>cases e
   | nil =>obtain⟨a,e1,e2⟩:=gQ (show(uB x).bind _=_ from e);obtain⟨b,e3,e4⟩:=ir e2;rw[lX e1,lX e3,<-e4]
@[simp] theorem O_ (a b:Int):pr2 [.int a,.int b]=My (a,b):=rfl
def NA:Dt->gF (List (Int×Int))
 | .dct ds=>My ds
 | _=>Rl
theorem FL {x:Dt}{l:List (Int×Int)}(e:NA x=My l):x=.dct l:=by
 cases x with
 | dct ds=>rw[ak e]
 | _=>cases e
def Ao:List Dt->gF Dt:=tN λ x=>(NA x).map λ ds=>.int ds.length
theorem DP:jq X (.builtin "len") (λ xs H Q=>∃ a kvs,xs=[V.ref a]/\Rd H a (.dK kvs)/\Q (.int kvs.length) H):=by intro pins s σ H xs us Q I r h;obtain⟨a,kvs,rfl,ha,q⟩:=h;obtain⟨u,rfl,ru⟩:=vals1 r;cases ru;exact Ni I ha λ t s' I'=>⟨.int kvs.length,H,I',⟨t,rfl⟩,q⟩
theorem FN:jq X (.builtin "len") (cD X.K Ao):=xU DP λ xs H Q ds d is e q=>by obtain⟨x,rfl,e1⟩:=kf e;obtain⟨l,e2,rfl⟩:=ir e1;obtain rfl:=FL e2;obtain⟨v,rfl,i⟩:=is.one;obtain⟨a,rfl,ha⟩:=i.ou;exact⟨a,_,rfl,ha,by rw[kvD,ah];exact q _ H (gY.refl H) (.int _)⟩
def C0 (l:List Dt):gF Dt:=(pr2 l).map λ t=>.int (if t.2<t.1 then t.2 else t.1)
def C1 (l:List Dt):gF Dt:=(pr2 l).map λ t=>.int (if t.2>t.1 then t.2 else t.1)
theorem LF (hc:X.calm=Rm):jq X (.builtin "min") (cD X.K C0):=xU (tj hc) λ xs H Q ds d is e q=>by obtain⟨l,e1,rfl⟩:=ir e;obtain rfl:=CZ e1;obtain⟨v,v',rfl,i1,i2⟩:=is.two;exact⟨_,_,by rw[i1.int_inv,i2.int_inv],q _ H (gY.refl H) (.int _)⟩
theorem LG (hc:X.calm=Rm):jq X (.builtin "max") (cD X.K C1):=xU (tf hc) λ xs H Q ds d is e q=>by obtain⟨l,e1,rfl⟩:=ir e;obtain rfl:=CZ e1;obtain⟨v,v',rfl,i1,i2⟩:=is.two;exact⟨_,_,by rw[i1.int_inv,i2.int_inv],q _ H (gY.refl H) (.int _)⟩
def oB:List Dt->gF Dt:=tN λ x=>(FK x).map .tup
theorem uO:jq X (.type "tuple") (cD X.K oB):=xU qz λ xs H Q ds d is e q=>by
 obtain⟨x,rfl,e⟩:=kf e;obtain⟨l,e0,rfl⟩:=ir e;obtain⟨v,rfl,i⟩:=is.one;rcases rQ e0 with rfl | rfl
 ·obtain⟨a,ys,rfl,ha,js⟩:=i.ip;exact⟨a,ys,rfl,.inr ⟨ha,q _ H (gY.refl H) (.tup ha js)⟩⟩
 ·obtain⟨a,ys,rfl,ha,js⟩:=i.lst_inv;exact⟨a,ys,rfl,.inl ⟨SqL.of ha,λ p hp=>q _ _ (gY.upd hp) (.tup (SqT.of gW) (js.ext (gY.upd hp)))⟩⟩
def tyD:Dt->gF String
 | .ty T=>My T
 | _=>Rl
theorem Ik {x:Dt}{T:String}(e:tyD x=My T):x=.ty T:=by
 cases x with
 | ty T=>rw[ak e]
 | _=>cases e
def xi:List Dt->gF (List Bool)
 | []=>My []
 | d::ds=>(asB d).bind λ i=>(xi ds).map (i::·)
theorem rR:∀ {ds:List Dt} {l:List Bool},xi ds=My l->ds=l.map .bl
 | [],l,h=>by cases h;rfl
 | d::ds,l,h=>by obtain⟨i,e1,h⟩:=gQ h;obtain⟨r,e2,h⟩:=ir h;subst h;rw[rM e1,rR e2];rfl
@[simp] theorem vL (l:List Bool):xi (l.map .bl)=My l:=by
 induction l with
 | nil=>rfl
 | cons i r ih=>show(My i).bind (λ i=>(xi (r.map .bl)).map (i::·))=_;rw[ih];rfl
def qR:Dt->gF (List Dt)
 | .lst ds=>My ds
 | _=>Rl
theorem jV {x:Dt}{l:List Dt}(e:qR x=My l):x=.lst l:=by
 cases x with
 | lst ds=>rw[ak e]
 | _=>cases e
def uC:List Dt->gF Dt:=tN λ x=>(qR x).bind λ ds=>(xi ds).map λ l=>.bl (l.all id)
theorem Il {K:gG}{xs:List V}{l:List Bool}(h:Iss K H xs (l.map .bl)):xs=l.map V.bl:=by
 induction l generalizing xs with
 | nil=>cases h;rfl
 | cons b r ih=>cases h with | cons h1 h2=>rw[h1.jk,ih h2];rfl
theorem Aq:∀ {l:List Bool} {its:List gH},Vals (l.map V.bl) its->its=l.map Value.bool
 | [],_,.nil=>rfl
 | b::r,_,.cons h t=>by cases h;rw[Aq t];rfl
theorem xj (l:List Bool):(Ro l.length).all (λ i=>l.getD i Rm)=l.all id:=by
 rw[bC];simp only[bN,aD,id];constructor
 ·intro h x hx;obtain⟨i,hi,rfl⟩:=bW hx;have:=h i hi;rw[aF,aG hi]at this;exact this
 ·intro h i hi;rw[aF,aG hi];exact h _ (dJ hi)
theorem DQ {prog:Program}{w:World}{A:Around}{E:gE}{l:Addr}{arr:Array gH}{Q:gE}(hl:s.heap.IsList l arr)
  (h:∀ s2:gJ,s2={s with heap:=s.heap.push {cls:=.type "list_iterator",data:=.fields #[.ref l,.int 0 0]}}->s2.heap.IsListIter s.heap.objs.size l 0->s2.heap.IsList l arr->l≠s.heap.objs.size->(∀ b∈[s.heap.objs.size,l],b<s2.heap.objs.size)->Q (.ref s.heap.objs.size) s2) :
  wpAny (model prog w) A (pyIter (.ref l)) Q E s:=by
 have hlt:l<s.heap.objs.size:=by obtain⟨_,e,_⟩:=hl;exact av e
 refine eO hl (h _ rfl ⟨_,aE _ rfl,rfl,rfl⟩ (hl.push _) (aP hlt) λ b hb=>?_);simp only[cE];simp only[ax,aN,or_false]at hb;rcases hb with rfl | rfl
 ·exact d_ _
 ·exact dq hlt
theorem Im {h':Heap}{o:Obj}(hk:∀ b u,b∉[s.heap.objs.size]->(s.heap.push o).get? b=My u->h'.get? b=My u):∀ b u,s.heap.get? b=My u->h'.get? b=My u:=λ b u e =>hk b u (λ hm=>absurd (av e) (by rw[aV.mp hm];exact aW _)) (ag _ e)
theorem Ar (hc:X.calm=Rm):jq X (.builtin "all") (cD X.K uC):=by
 intro pins s σ H xs us Q I rs ⟨ds,d,is,e,q⟩;obtain⟨x,rfl,e2⟩:=kf e;obtain⟨l,e0,e3⟩:=gQ e2;obtain rfl:=jV e0;clear e e2 e0
 ·obtain⟨bs,e1,e⟩:=ir e3
  subst e;have e1:=rR e1;subst e1;obtain⟨v,rfl,i⟩:=is.one;obtain⟨p,ys,rfl,hp,js⟩:=i.lst_inv;obtain⟨u,rfl,ru⟩:=vals1 rs;cases ru;obtain⟨its,rv,pl,_⟩:=I.list (SqL.of hp);rw[Il js]at rv;have e2:=Aq rv;subst e2;refine call_all_walk (DQ pl.isList λ s2 es hi hl ne hfp=>?_);refine⟨_,_,_,_,_,_,λ i=>bs.getD i Rm,rfl,Walks.list (A:=X.A.in1) (I.ok.hd hc) _ p ne _,⟨hi,hl⟩,?_,λ h' tk hk=>?_⟩
  ·intro i v s' Q' E' hv hq
   have hv:(bs.map Value.bool)[i]?=My v:=by simpa using hv
   rw[aJ]at hv;cases hb:bs[i]? with
   | none=>rw[hb]at hv;cases hv
   | some k =>rw[hb]at hv;cases hv;refine bQ ?_;have hq:Q' (bs.getD i Rm) s':=hq;rw[aF,hb]at hq;exact hq
  ·subst es
   refine⟨.bl (bs.all id),H,I.kept (t':=tk) (Im hk),?_,q _ H (gY.refl H) (.bl _)⟩;have:(Ro (bs.map Value.bool).toArray.size).all (λ i=>bs.getD i Rm)=bs.all id:=by rw[ao,ah,xj]
   rw[this];rfl
def rS (srt:List Int->List Int):List Dt->gF Dt:=tN λ x=>(qR x).bind λ ds=>if ds.length<64 then (nu ds).map λ l=>.lst ((srt l).map .int) else Rl
theorem uD:∀ {us:List gH} {ns:List Int},IntsAre us ns->Vals (ns.map V.int) us:=by
 intro us ns h;induction h with
 | nil=>exact .nil
 | cons n t _ ih=>exact .cons ⟨t,rfl⟩ ih
theorem As (srt:List Int->List Int)(hp:∀ l,(srt l).Perm l)(hs:∀ l,(srt l).Pairwise (·<=·)):jq X (.builtin "sorted") (cD X.K (rS srt)):=by
 intro pins s σ H xs us Q I rs ⟨ds,d,is,e,q⟩;obtain⟨x,rfl,e2⟩:=kf e;obtain⟨l,e0,e3⟩:=gQ e2;obtain rfl:=jV e0;clear e e2 e0
 ·by_cases h64:l.length<64
  ·rw[ai h64]at e3
   obtain⟨bs,e1,e⟩:=ir e3;subst e;have e1:=mL e1;subst e1;obtain⟨v,rfl,i⟩:=is.one;obtain⟨p,ys,rfl,hp',js⟩:=i.lst_inv;obtain⟨u,rfl,ru⟩:=vals1 rs;cases ru;obtain⟨its,rv,pl,_⟩:=I.list (SqL.of hp');rw[js.ints]at rv;have hlen:its.length=bs.length:=by have:=rv.length;simpa using this.symm
   have h64:bs.length<64:=by simpa using h64
   refine sorted_ints pl.isList (intsAre_of rv) (by lia) λ out ns' ia pe pw=>?_;obtain⟨ep,he⟩:=sortedAll_at s.heap its out;have hns:ns'=srt bs:=by have p2:=pe.trans (hp bs).symm;exact p2.eq_of_pairwise (λ a b _ _ h1 h2=>Int.le_antisymm h1 h2) pw (hs bs)
   subst hns;have hnew:=I.laid (a:=s.heap.objs.size+1) (o:=.lst ((srt bs).map V.int)) (h':=sortedAll s.heap its out) (t':=s.toks) (λ b u e=>sortedAll_old e) (gy _) ⟨by rw[ah,(hp bs).length_eq,sizeLine_eq];lia,out.toList,ep,uD ia,by simpa using he⟩;exact⟨.ref (s.heap.objs.size+1),_,hnew,rfl,q _ _ (gY.upd (I.hok.fresh (gy _))) (.lst gW (Iss.CQ _))⟩
  ·rw[aq h64]at e3;cases e3
end
end L2
namespace L2
open PySem PySem.Spec PyProof.Rows Zp
section
variable {X:Cx}{e a b c:Expr}{es:List Expr}{pos:Pos}{tg:Expr}
theorem LH {scope:Scope}{own fr:List Str}{ix:List Nat}(h1:scope.kind=.function:=by rfl)(h2:(scope.names.all λ x=>x.2 != .local || scope.names.lookup x.1==My .local)=Rm:=by rfl)
  (h3:(scope.names.all λ x=>x.2 != .cell)=Rm:=by rfl) (h4:(scope.names.all λ x=>x.2 != .free || (X.env.kindOf x.1==My .cell || X.env.kindOf x.1==My .free))=Rm:=by rfl)
  (h5:(own.all λ x=>scope.names.lookup x==My .local)=Rm:=by rfl) (h6:(fr.all λ x=>scope.names.lookup x==My .free)=Rm:=by rfl) (h7:ix.map (λ i=>X.N[i]?)=fr.map My:=by rfl) (h8:(own++fr).Nodup:=by decide +kernel):ly X scope own fr ix:=by
 simp only[bN,Bool.or_eq_true,bne_iff_ne,beq_iff_eq]at h2 h3 h4 h5 h6;refine⟨h1,λ x hx e=>?_,λ x hx=>h3 x hx,λ x hx e=>?_,h5,h6,h7,h8⟩
 ·rcases h2 x hx with z | z
  ·exact absurd e z
  ·exact z
 ·rcases h4 x hx with z | z
  ·exact absurd e z
  ·exact z
def k_:Dt->gF (List Dt)
 | .tup ds=>My ds
 | .lst ds=>My ds
 | _=>Rl
theorem oC {g:DE->gF Dt}(h:PD X e g):PI X tg e (iD X.K (gI k_ g)):=λ pins s σ H R I hz1=>by
 obtain⟨δ,ds,S,q,k⟩:=hz1;obtain⟨x,e1,e2⟩:=gQ q;cases x<;>simp[k_]at e2
 ·subst e2;exact Ly h pins s σ H R I ⟨δ,_,S,by unfold gI;rw[e1];rfl,k⟩
 ·subst e2;exact Lz h pins s σ H R I ⟨δ,_,S,by unfold gI;rw[e1];rfl,k⟩
def nP (gs:DE->gF (List Dt)):DE->gF (List Dt):=λ δ=>(gs δ).bind Ah
def Au (gs:DE->gF (List Dt)):DE->gF (List Dt):=λ δ=>(gs δ).bind Ic
def LI (t1 t2:Bool)(gs:DE->gF (List Dt)):DE->gF (List Dt):=λ δ=>(gs δ).bind (Ie t1 t2)
theorem rT {gs:DE->gF (List Dt)}{p:Pos}(hm:X.mg "range"=Rl)(ha:PDs X [a] gs)(hg:Gl X "range":=by rfl)(hs:starEach [a] X.env=[(Rn,eval a X.env)]:=by rfl):PI X tg (.Call (.Name "range" p) [a] [] pos) (iD X.K (nP gs)):=DL hm ha hg hs
theorem Io {gs:DE->gF (List Dt)}{p:Pos}(hm:X.mg "range"=Rl)(ha:PDs X [a,b] gs)(hg:Gl X "range":=by rfl)(hs:starEach [a,b] X.env=[(Rn,eval a X.env),(Rn,eval b X.env)]:=by rfl)(hs2:starEach [b] X.env=[(Rn,eval b X.env)]:=by rfl):PI X tg (.Call (.Name "range" p) [a,b] [] pos) (iD X.K (Au gs)):=DM hm ha hg hs hs2
theorem NB {gs:DE->gF (List Dt)}{elts:List Expr}{kk:Nat}{ps p:Pos}(t1 t2:Bool)(hm:X.mg "zip"=Rl)(ha:PDs X [a,b] gs)(hg:Gl X "zip":=by rfl)(hs:starEach [a,b] X.env=[(Rn,eval a X.env),(Rn,eval b X.env)]:=by rfl)(hs2:starEach [b] X.env=[(Rn,eval b X.env)]:=by rfl):PI X (.Tuple elts kk ps) (.Call (.Name "zip" p) [a,b] [] pos) (iD X.K (LI t1 t2 gs)):=LB t1 t2 hm ha hg hs hs2 boot_zip
theorem h_ {k:Nat}{A:Around}(hr:jt k A):A.units+2<cLine:=by have:=hr.units;lia
end
abbrev Hg (n:Nat)(N:List Str)(f:List Dt->gF Dt)(g:DE->gF RD):Prop:=∀ ds d,ds.length=n->f ds=My d->∃ r,g (qQ N ds)=My r/\LC r=d
def srt (l:List Int):List Int:=l.mergeSort (λ a b=>decide (a<=b))
theorem pO (l:List Int):(srt l).Perm l:=List.mergeSort_perm ..
theorem oD (l:List Int):(srt l).Pairwise (·<=·):=by have:=List.pairwise_mergeSort (le:=λ a b:Int=>decide (a<=b)) (λ a b c h1 h2=>by simp at *;lia) (λ a b=>by simp;lia) l;exact this.imp λ h=>by simpa using h
def sm (q:Rat):Prop:=q.num.natAbs<2 ^ 1900/\q.den<2 ^ 1900
instance (q:Rat):Decidable (sm q):=inferInstanceAs (Decidable (_/\_))
theorem la {α:Type}{enc:α->Dt}{gg:Dt->DE->gF DE}{gt:DE->gF Bool}{ge:DE->gF Dt}{δc:DE}{δa:α->DE}{p:α->Bool}{enc':α->Dt}:∀ (l:List α),(∀ a∈l,gg (enc a) δc=My (δa a)/\gt (δa a)=My (p a)/\(p a=Rm->ge (δa a)=My (enc' a))) ->
  qP gg gt ge δc (l.map enc)=My ((l.filter p).map enc')
 | [],_=>rfl
 | a::r,h=>by
  obtain⟨h1,h2,h3⟩:=h a ay;have ih:=la r λ b hb=>h b (aw _ hb);rw[aS,qP,h1,aB,h2,aB,ih];cases hp:p a with
  | true=>rw[ai rfl,h3 hp,List.filter_cons_of_pos hp];rfl
  | false=>rw[aq au,List.filter_cons_of_neg (by rw[hp];exact au)]
theorem rV {α:Type}{enc:α->Dt}{gg:Dt->DE->gF DE}{ge:DE->gF Dt}{δc:DE}{δa:α->DE}{enc':α->Dt}(l:List α)(h:∀ a∈l,gg (enc a) δc=My (δa a)/\ge (δa a)=My (enc' a)) :
  qP gg jU ge δc (l.map enc)=My (l.map enc'):=by
 have:=la (gt:=jU) (p:=λ _=>Rm) l λ a ha=>⟨(h a ha).1,rfl,λ _=>(h a ha).2⟩;rw[this,List.filter_eq_self.mpr λ _ _=>rfl]
end L2
namespace L2
section
variable (δ:DE)(g g' g2:DE->gF Dt)(r r':DE->gF RD)(gs:DE->gF (List Dt))(t t':DE->gF Bool)(i j:Nat)(f f':Dt->Dt->gF Dt)(h:List Dt->gF Dt)(d:Dt)
@[simp] theorem QC:kM r r' δ=(r δ).bind λ x=>match x with | .nx δ'=>r' δ' | .rt d=>My (.rt d):=rfl
@[simp] theorem QD:lq i g δ=(g δ).map λ d=>.nx (δ.set i (My d)):=rfl
@[simp] theorem Pa:iq i h gs δ=(gs δ).bind λ ds=>if ds.length=i then h ds else Rl:=rfl
@[simp] theorem Py:iU h gs δ=(gs δ).bind h:=rfl
@[simp] theorem Pz:gN g gs δ=(g δ).bind λ x=>(gs δ).map λ r=>x::r:=rfl
@[simp] theorem Pb:gR δ=My []:=rfl
@[simp] theorem QE:gS i δ=(δ[i]?).join:=rfl
@[simp] theorem e_C:gC d δ=My d:=rfl
@[simp] theorem QF:hU f g g' δ=(g δ).bind λ x=>(g' δ).bind λ y=>f x y:=rfl
@[simp] theorem QG:kN g δ=(g δ).map .rt:=rfl
@[simp] theorem PB:kZ δ=My (.nx δ):=rfl
@[simp] theorem QH:oy t r r' δ=(t δ).bind λ k=>if k=Rm then r δ else r' δ:=rfl
@[simp] theorem Q_:gIf t g g' δ=(t δ).bind λ k=>if k=Rm then g δ else g' δ:=rfl
@[simp] theorem QI:nK t t' δ=(t δ).bind λ k=>if k=Rm then My Rm else t' δ:=rfl
@[simp] theorem PH:Fl t t' δ=(t δ).bind λ k=>if k=Rm then t' δ else My Rn:=rfl
@[simp] theorem PJ:j9 t δ=(t δ).map (!·):=rfl
@[simp] theorem Ra:gTr g δ=(g δ).bind DK:=rfl
@[simp] theorem e_B:gB g δ=(g δ).bind asB:=rfl
@[simp] theorem QJ:yM g g' δ=(gB g δ).bind λ k=>if k=Rm then g' δ else My (.bl Rn):=rfl
@[simp] theorem QK:Ls g δ=(gB g δ).map λ k=>.bl (!k):=rfl
@[simp] theorem QL:i9 gs δ=(gs δ).bind λ ds=>if ds.length<=1000 then My (.tup ds) else Rl:=rfl
@[simp] theorem QM:lz gs δ=(gs δ).bind λ ds=>if ds.length<=1000 then My (.lst ds) else Rl:=rfl
@[simp] theorem Pc:pK f f' g g' g2 δ=(g δ).bind λ x=>(g' δ).bind λ y=>(f x y).bind λ z=>(asB z).bind λ k=>if k=Rm then (g2 δ).bind λ w=>f' y w else My (.bl Rn):=rfl
@[simp] theorem QN (gg:Dt->DE->gF DE):Ai gg g δ=(g δ).bind λ d=>(gg d δ).map .nx:=rfl
@[simp] theorem PK (x y:Dt):nM i j (.tup [x,y]) δ=My ((δ.set i (My x)).set j (My y)):=rfl
@[simp] theorem QO:ggN i d δ=My (δ.set i (My d)):=rfl
@[simp] theorem Rc (own:List PySem.Str) (ix:List Nat) (gi:DE->gF (List Dt)) (gg:Dt->DE->gF DE):gLC own ix gi gg t g δ=(gi δ).bind λ ds=>if ds.length<=1000 then (qP gg t g (o7 own ix δ) ds).map .lst else Rl:=rfl
@[simp] theorem QP (gi:DE->gF (List Dt)) (gg:Dt->DE->gF DE):BQ gi gg r δ=(gi δ).bind λ ds=>my gg r δ ds:=rfl
@[simp] theorem Rf (f:Dt->gF (List Dt)):gI f g δ=(g δ).bind f:=rfl
@[simp] theorem PL:nP gs δ=(gs δ).bind Ah:=rfl
@[simp] theorem PM:Au gs δ=(gs δ).bind Ic:=rfl
@[simp] theorem QQ (t1 t2:Bool):LI t1 t2 gs δ=(gs δ).bind (Ie t1 t2):=rfl
@[simp] theorem PN:jU δ=My Rm:=rfl
@[simp] theorem PQ (own:List PySem.Str) (ix:List Nat):o7 own ix δ=own.map (λ _=>Rl)++ix.map λ i=>(δ[i]?).getD Rl:=rfl
@[simp] theorem Pd (N:List PySem.Str) (ds:List Dt):qQ N ds=ds.map My++Rp (N.length-ds.length) Rl:=rfl
@[simp] theorem PR {α:Type} (x:α):Rp 0 x=[]:=rfl
@[simp] theorem PU {α:Type} (x:α):Rp 1 x=[x]:=rfl
@[simp] theorem PV {α:Type} (x:α):Rp 2 x=[x,x]:=rfl
@[simp] theorem PY {α:Type} (x:α):Rp 3 x=[x,x,x]:=rfl
@[simp] theorem PZ {α:Type} (x:α):Rp 4 x=[x,x,x,x]:=rfl
@[simp] theorem P2 (ds:List Dt):k_ (.tup ds)=My ds:=rfl
@[simp] theorem P4 (ds:List Dt):k_ (.lst ds)=My ds:=rfl
@[simp] theorem P5 (b:Bool):DK (.bl b)=My b:=rfl
@[simp] theorem QR (b:Bool):asB (.bl b)=My b:=rfl
@[simp] theorem P6 (n:List Dt):qv [.tup n]=My (.int n.length):=rfl
@[simp] theorem P7 (n:List Dt):qv [.lst n]=My (.int n.length):=rfl
@[simp] theorem P8 (n:List (Int×Int)):Ao [.dct n]=My (.int n.length):=rfl
@[simp] theorem NC (n:List Dt):oB [.lst n]=My (.tup n):=rfl
@[simp] theorem ND (n:List Dt):oB [.tup n]=My (.tup n):=rfl
@[simp] theorem Rg (g:Int->Int->Int) (a b:Int):dI g (.int a) (.int b)=My (.int (g a b)):=rfl
@[simp] theorem QS (g:Int->Int->Bool) (a b:Int):dIB g (.int a) (.int b)=My (.bl (g a b)):=rfl
@[simp] theorem Rh (a b:Int):oA (.int a) (.int b)=My (.bl (!(a==b))):=rfl
@[simp] theorem Rj (a b:Int):rP (.int a) (.int b)=My (.bl (a==b)):=rfl
@[simp] theorem QT (a b:Bool):oA (.bl a) (.bl b)=My (.bl (!(a==b))):=rfl
@[simp] theorem QU (a b:Bool):rP (.bl a) (.bl b)=My (.bl (a==b)):=rfl
@[simp] theorem P9 (a b:Bool):vK (.bl a) (.bl b)=My (.bl (a != b)):=rfl
@[simp] theorem QV (a b:Bool):BS (.bl a) (.bl b)=My (.bl (a==b)):=rfl
@[simp] theorem QX (ds:List Dt) (i:Int):dIx (.tup ds) (.int i)=atI ds i:=rfl
@[simp] theorem QY (ds:List Dt) (i:Int):dIx (.lst ds) (.int i)=atI ds i:=rfl
@[simp] theorem QZ (x y:Dt):atI [x,y] 0=My x:=rfl
@[simp] theorem Q0 (x y:Dt):atI [x,y] 1=My y:=rfl
@[simp] theorem Q2 (l:List Bool):uC [.lst (l.map .bl)]=My (.bl (l.all id)):=by show(xi (l.map .bl)).map _=_;rw[vL];rfl
end
open PySem PySem.Spec PyProof.Rows Zp PySem.SeqAt
section
variable {X:Cx}{e a b c:Expr}{es:List Expr}{pos:Pos}{pins:gL}{σ:St}{H:Hp}{s:gJ}
def uh (kvs:List (Int×Int))(k:Int):gF Int:=(kvs.find? λ q=>decide (q.1=k)).map (·.2)
def Ip:Dt->Dt->gF Dt
 | .dct kvs,.int k=>(uh kvs k).map .int
 | _,_=>Rl
theorem Av (kvs:List (Int×Int))(k:Int):mS (kvD kvs) (Sum.inl k)=(uh kvs k).map V.int:=by unfold mS kvD uh;rw[List.find?_map];simp[dw]
theorem NF {ga gb:DE->gF Dt}(hu:X.A.units+1<cLine)(ha:PD X a ga)(hb:PD X b gb)(hs:Lh b:=by exact λ _ _=>rfl):PD X (.Subscript a b pos) (hU Ip ga gb) :=
 (CA hu ha hb hs).of λ σ H Q ⟨δ,d,S,e,q⟩=>by
  obtain⟨x,y,e1,e2,e3⟩:=rL e;refine⟨δ,x,S,e1,λ v H1 s1 i1=>⟨δ,y,S.ext s1,e2,λ w H2 s2 i2=>?_⟩⟩;match x,y,e3 with
  | .dct kvs,.int k,e3 =>obtain⟨r,e4,rfl⟩:=ir (show(uh kvs k).map _=_ from e3);obtain⟨p,rfl,hp⟩:=(i1.ext s2).ou;have:=i2.int_inv;subst this;refine⟨p,.int r,rfl,?_,q _ H2 (s1.trans s2) (.int r)⟩;have g:vm H2 p (kV (Sum.inl k)) (mS (kvD kvs) (Sum.inl k)):=.inl ⟨kvD kvs,Sum.inl k,hp,rfl,rfl⟩;rw[Av,e4]at g;exact g
def pz (d:Dt)(es:List Dt):Bool:=es.any λ e=>dEq e d
def dIn (neg:Bool):Dt->Dt->gF Dt
 | d,.tup es=>if (es.all λ e=>sh2 e d)=Rm then My (.bl (if neg then !pz d es else pz d es)) else Rl
 | d,.lst es=>if (es.all λ e=>sh2 e d)=Rm then My (.bl (if neg then !pz d es else pz d es)) else Rl
 | _,_=>Rl
open Classical in
def isIt (its:List gH)(es:List Dt)(d:Dt)(w:gH):Bool:=decide (∃ (j:Nat) (e:Dt),its[j]?=My w/\es[j]?=My e/\dEq e d=Rm)
theorem rW {its:List gH}{es:List Dt}{d:Dt}{w:gH}:isIt its es d w=Rm↔∃ (j:Nat) (e:Dt),its[j]?=My w/\es[j]?=My e/\dEq e d=Rm:=by unfold isIt;exact @decide_eq_true_iff _ (Classical.propDecidable _)
theorem rX {xs:List V}{its:List gH}{es:List Dt}{d:Dt}(js:Iss X.K H xs es)(r:Vals xs its):its.any (isIt its es d)=pz d es:=by
 rw[bC,fg];unfold pz;rw[fg];constructor
 ·rintro⟨w,_,h⟩;obtain⟨j,e,h1,h2,h3⟩:=rW.mp h;exact⟨e,aY h2,h3⟩
 ·rintro⟨e,he,h⟩
  obtain⟨j,hj,ej⟩:=bW he;have ej:es[j]?=My e:=by rw[aG hj,ej]
  obtain⟨v,hv,iv⟩:=js.get ej;obtain⟨u,hu,_⟩:=r.get hv;exact⟨u,aY hu,rW.mpr ⟨j,e,hu,ej,h⟩⟩
theorem uP {A:Around}(I:Inv X pins σ H s)(hu:A.units<cLine){xs:List V}{its:List gH}{es:List Dt}{d:Dt}{x:V}{v:gH}(js:Iss X.K H xs es)(r:Vals xs its)(i:Is X.K H x d)(rx:RelV x v)
  (sh:(es.all λ e=>sh2 e d)=Rm) (w:gH) (hw:w∈its):EqAt A s w v (isIt its es d w):=by
 have at_:∀ j e,its[j]?=My w->es[j]?=My e->EqAt A s w v (dEq e d):=λ j e h1 h2=>by obtain⟨y,u,hu',ru,iy⟩:=js.vals I r h2;rw[h1]at hu';cases hu';exact CW I hu (bN.mp sh e (aY h2)) iy i ru rx
 cases hq:isIt its es d w with
 | true =>obtain⟨j,e,h1,h2,h3⟩:=rW.mp hq;have:=at_ j e h1 h2;rw[h3]at this;exact this
 | false =>
  obtain⟨j,hj,ej⟩:=bW hw;have hl:its.length=es.length:=by rw[<-r.length,js.length]
  have h1:its[j]?=My w:=by rw[aG hj,ej]
  have h2:es[j]?=My es[j]:=aG (by lia);have:=at_ j _ h1 h2;have n:¬ dEq es[j] d=Rm:=λ z=>by rw[rW.mpr ⟨j,_,h1,h2,z⟩]at hq;cases hq
  rw[bw]at n;rw[n]at this;exact this
set_option tactic.hygienic true in
theorem LJ (hu:X.A.units+2<cLine):OpR X (compareOp .In) (rD X.K (dIn Rn)):=by
 intro pins s σ H x y v u Q I rx ry ⟨d,d',r,i,i',e,q⟩;have hu1:X.A.in1.units<cLine:=by have:X.A.in1.units=X.A.units+1:=rfl;lia
 cases d'<;>try (cases e;done)
 ·rename_i es
  have e:(if (es.all λ e=>sh2 e d)=Rm then My (Dt.bl (pz d es)) else Rl)=My r:=e;split at e
  ·rename_i sh;cases e;obtain⟨p,xs,rfl,hp,js⟩:=i'.ip;cases ry;obtain⟨its,rv,pl,hz⟩:=I.tuple hp;refine in_tupleAt (isIt its es d) pl (λ w hw=>uP I hu1 js rv i rx sh w (by simpa using hw)) ⟨.bl _,H,I,rfl,?_⟩;rw[fh,rX js rv];exact q _ H (gY.refl H) (.bl _)
  ·cases e
 ·rename_i es
  have e:(if (es.all λ e=>sh2 e d)=Rm then My (Dt.bl (pz d es)) else Rl)=My r:=e;split at e
  ·rename_i sh;cases e;obtain⟨p,xs,rfl,hp,js⟩:=i'.lst_inv;cases ry;obtain⟨its,rv,pl,hz⟩:=I.list (SqL.of hp);refine in_listAt (isIt its es d) pl.isList (λ w hw=>uP I hu1 js rv i rx sh w (by simpa using hw)) ⟨.bl _,H,I,rfl,?_⟩;rw[fh,rX js rv];exact q _ H (gY.refl H) (.bl _)
  ·cases e
set_option tactic.hygienic true in
theorem Iq (hu:X.A.units+2<cLine):OpR X (compareOp .NotIn) (rD X.K (dIn Rm)):=by
 intro pins s σ H x y v u Q I rx ry ⟨d,d',r,i,i',e,q⟩;have hu1:X.A.in1.units<cLine:=by have:X.A.in1.units=X.A.units+1:=rfl;lia
 cases d'<;>try (cases e;done)
 ·rename_i es
  have e:(if (es.all λ e=>sh2 e d)=Rm then My (Dt.bl (!pz d es)) else Rl)=My r:=e;split at e
  ·rename_i sh;cases e;obtain⟨p,xs,rfl,hp,js⟩:=i'.ip;cases ry;obtain⟨its,rv,pl,hz⟩:=I.tuple hp;refine notIn_tupleAt (isIt its es d) pl (λ w hw=>uP I hu1 js rv i rx sh w (by simpa using hw)) ⟨.bl _,H,I,rfl,?_⟩;rw[fh,rX js rv];exact q _ H (gY.refl H) (.bl _)
  ·cases e
 ·rename_i es
  have e:(if (es.all λ e=>sh2 e d)=Rm then My (Dt.bl (!pz d es)) else Rl)=My r:=e;split at e
  ·rename_i sh;cases e;obtain⟨p,xs,rfl,hp,js⟩:=i'.lst_inv;cases ry;obtain⟨its,rv,pl,hz⟩:=I.list (SqL.of hp);refine notIn_listAt (isIt its es d) pl.isList (λ w hw=>uP I hu1 js rv i rx sh w (by simpa using hw)) ⟨.bl _,H,I,rfl,?_⟩;rw[fh,rX js rv];exact q _ H (gY.refl H) (.bl _)
  ·cases e
def gUn (f:Dt->gF Dt)(g:DE->gF Dt):DE->gF Dt:=λ δ=>(g δ).bind f
end
end L2
namespace L2
open PySem PySem.Spec PyProof.Rows Zp
section
variable {X:Cx}{a b e:Expr}{es:List Expr}{pos:Pos}
def NG:Dt->gF Str
 | .str z=>My z
 | _=>Rl
theorem FO {x:Dt}{z:Str}(e:NG x=My z):x=.str z:=by
 cases x with
 | str y=>rw[ak e]
 | _=>cases e
end
section
variable {X:Cx}{a b e o:Expr}{es:List Expr}{pos:Pos}
def C2:List Dt->gF (List Str)
 | []=>My []
 | d::ds=>(NG d).bind λ z=>(C2 ds).map (z::·)
theorem xV {ds:List Dt}:∀ {l:List Str},C2 ds=My l->ds=l.map .str:=by
 induction ds with
 | nil=>intro l h;cases h;rfl
 | cons d ds ih =>intro l h;obtain⟨z,e1,h1⟩:=gQ h;obtain⟨r,e2,h2⟩:=ir h1;subst h2;rw[FO e1,ih e2];rfl
theorem Iss.ne {K:gG}{H:Hp}{vs:List V}{ds:List Dt}(h:Iss K H vs ds)(n:ds≠[]):vs≠[]:=by intro e;subst e;cases h;exact n rfl
def oE:List Dt->gF Dt:=tN λ x=>(FK x).map .lst
theorem vM:jq X (.type "list") (cD X.K oE):=xU yD λ xs H Q ds d is e q=>by
 obtain⟨x,rfl,e1⟩:=kf e;obtain⟨l,e0,rfl⟩:=ir e1;obtain⟨v,rfl,i⟩:=is.one;rcases rQ e0 with rfl | rfl
 ·obtain⟨a,ys,rfl,ha,js⟩:=i.ip;exact⟨a,ys,rfl,.inr ha,λ p hp=>q _ _ (gY.upd hp) (.lst gW (js.ext (gY.upd hp)))⟩
 ·obtain⟨a,ys,rfl,ha,js⟩:=i.lst_inv;exact⟨a,ys,rfl,.inl (SqL.of ha),λ p hp=>q _ _ (gY.upd hp) (.lst gW (js.ext (gY.upd hp)))⟩
end
abbrev gO (k:Nat):Dt:=.int k
def g6 (p:Nat×Nat):Dt:=.tup [gO p.1,gO p.2]
abbrev iJ (l:gK):Dt:=.tup (l.map g6)
def iP (w:Nat×gK):Dt:=.tup [gO w.1,iJ w.2]
def lY:Dt->gF Nat
 | .int i=>if 0<=i then My i.toNat else Rl
 | _=>Rl
theorem lC {d:Dt}{k:Nat}(h:lY d=My k):d=gO k:=by cases d<;>simp[lY]at h;rw[<-h.2,gO];congr 1;lia
@[simp] theorem jW (k:Nat):lY (gO k)=My k:=by simp[lY,gO]
def LK {α:Type}(F:Dt->Dt->gF α):List Dt->gF α
 | [x,y]=>F x y
 | _=>Rl
theorem Aw {α:Type}{F:Dt->Dt->gF α}{l:List Dt}{d:α}(e:LK F l=My d):∃ x y,l=[x,y]/\F x y=My d:=by
 cases l with
 | nil=>cases e
 | cons x r=>cases r with
  | nil=>cases e
  | cons y z=>cases z with
   | nil=>exact⟨x,y,rfl,e⟩
   | cons _ _=>cases e
def dNP (d:Dt):gF (Nat×Nat):=(BV d).bind (LK λ x y=>(lY x).bind λ a=>(lY y).map λ b=>(a,b))
theorem Ir {d:Dt}{p:Nat×Nat}(h:dNP d=My p):d=g6 p:=by obtain⟨l,e0,h⟩:=gQ h;obtain⟨x,y,rfl,h⟩:=Aw h;obtain⟨a,e1,h⟩:=gQ h;obtain⟨b,e2,h⟩:=ir h;subst h;rw[nO e0,lC e1,lC e2];rfl
@[simp] theorem Iu (p:Nat×Nat):dNP (g6 p)=My p:=by show(lY (gO p.1)).bind (λ a=>(lY (gO p.2)).map λ b=>(a,b))=_;rw[jW,jW];rfl
def xk:List Dt->gF gK
 | []=>My []
 | d::ds=>(dNP d).bind λ i=>(xk ds).map (i::·)
theorem mX:∀ {ds:List Dt} {l:gK},xk ds=My l->ds=l.map g6
 | [],l,h=>by cases h;rfl
 | d::ds,l,h=>by obtain⟨i,e1,h⟩:=gQ h;obtain⟨r,e2,h⟩:=ir h;subst h;rw[Ir e1,mX e2];rfl
@[simp] theorem rY (l:gK):xk (l.map g6)=My l:=by
 induction l with
 | nil=>rfl
 | cons i r ih=>show(dNP (g6 i)).bind (λ i=>(xk (r.map g6)).map (i::·))=_;rw[ih,Iu];rfl
def dTs (d:Dt):gF gK:=(FK d).bind xk
def dTt (d:Dt):gF gK:=(BV d).bind xk
theorem uQ {d:Dt}{l:gK}(h:dTt d=My l):d=iJ l:=by obtain⟨ds,e,h⟩:=gQ h;rw[nO e,mX h]
@[simp] theorem uR (l:gK):dTt (iJ l)=My l:=rY l
theorem Iv {d:Dt}{l:gK}(h:dTs d=My l):d=iJ l\/d=.lst (l.map g6):=by
 obtain⟨ds,e,h⟩:=gQ h;rcases rQ e with rfl | rfl
 ·exact .inl (by rw[mX h])
 ·exact .inr (by rw[mX h])
@[simp] theorem uS (l:gK):dTs (iJ l)=My l:=rY l
def nbI (l:gK)(p:Nat):List Int:=srt ((l.filter λ t=>t.2==p).map (λ t=>(t.1:Int))++(l.filter λ t=>t.1==p).map λ t=>(t.2:Int))
def nb (l:gK)(p:Nat):List Nat:=(nbI l p).map Int.toNat
theorem Ax (l:gK)(p:Nat):(nbI l p).Perm ((l.filter λ t=>t.2==p).map (λ t=>(t.1:Int))++(l.filter λ t=>t.1==p).map λ t=>(t.2:Int)):=pO _
theorem C3 (l:gK)(p:Nat):(nb l p).Perm ((l.filter λ t=>t.2==p).map (·.1)++(l.filter λ t=>t.1==p).map (·.2)):=by have:=(Ax l p).map Int.toNat;unfold nb;simpa [bD,dw] using this
theorem FP (l:gK)(p:Nat):nbI l p=(nb l p).map λ(k:Nat)=>(k:Int):=by
 unfold nb;rw[bq];conv=>lhs;rw[<-cT (nbI l p)]
 refine cm λ x hx=>?_;have h:=(Ax l p).mem_iff.mp hx;have:0<=x:=by rcases aM.mp h with h | h<;>(obtain⟨t,_,rfl⟩:=aA.mp h;lia)
 simp;lia
def nv (fd:gK)(k:Nat):Bool:=fd.any λ q=>q.1==k
def look (fd:gK)(k:Nat):Nat:=(fd.lookup k).getD 0
def i_ (place:Nat)(st:gK×List Nat)(near:Nat):gK×List Nat:=if nv st.1 near=Rm then st else (st.1++[(near,look st.1 place+1)],st.2++[near])
def visit (l:gK)(st:gK×List Nat)(place:Nat):gK×List Nat:=(nb l place).foldl (i_ place) st
def jM (l:gK)(fd:gK)(ic:List Nat):gK×List Nat:=ic.foldl (visit l) (fd,[])
def ny (l:gK):Nat->gK->List Nat->gK
 | 0,fd,_=>fd
 | _+1,fd,[]=>fd
 | k+1,fd,e::es=>ny l k (jM l fd (e::es)).1 (jM l fd (e::es)).2
def bfs (l:gK)(s:Nat):gK:=ny l (2*l.length+2) [(s,0)] [s]
def jK (fd:gK):List (Int×Int):=fd.map λ q=>((q.1:Int),(q.2:Int))
def mj (p q:Nat×Nat):Bool:=HT.lexLt [(p.1:Int),(p.2:Int)] [(q.1:Int),(q.2:Int)]
def rise (l:gK):Bool:=(l.zip l.tail).all λ pq=>mj pq.1 pq.2
structure Good (w:Nat×gK):Prop where
 two:2<=w.1
 nQ:w.1<=8
 ok:∀ p∈w.2,p.1<p.2/\p.2<w.1
 rise:rise w.2=Rm
 all:(bfs w.2 0).length=w.1
 len:w.2.length<=30
 ne:w.2≠[]
def Ay (w:Nat×gK):Bool:=decide (2<=w.1/\w.1<=8)&&(w.2.all λ p=>decide (p.1<p.2/\p.2<w.1))&&rise w.2&&decide ((bfs w.2 0).length=w.1)&&decide (w.2.length<=30)&&!w.2.isEmpty
theorem xX (w:Nat×gK):Ay w=Rm↔Good w:=by
 unfold Ay;simp only[aU,decide_eq_true_eq,bN,Bool.not_eq_true',List.isEmpty_eq_false_iff];constructor
 ·rintro⟨⟨⟨⟨⟨h1,h2⟩,h3⟩,h4⟩,h5⟩,h6⟩;exact⟨h1.1,h1.2,h2,h3,h4,h5,h6⟩
 ·rintro⟨h1,h1',h2,h3,h4,h5,h6⟩;exact⟨⟨⟨⟨⟨⟨h1,h1'⟩,h2⟩,h3⟩,h4⟩,h5⟩,h6⟩
def dW (d:Dt):gF (Nat×gK):=(BV d).bind (LK λ x y=>(lY x).bind λ n=>(dTt y).bind λ l=>if Ay (n,l)=Rm then My (n,l) else Rl)
theorem vN {d:Dt}{w:Nat×gK}(h:dW d=My w):d=iP w/\Good w:=by
 obtain⟨l,e0,h⟩:=gQ h;obtain⟨x,y,rfl,h⟩:=Aw h;obtain⟨a,e1,h⟩:=gQ h;obtain⟨b,e2,h⟩:=gQ h;by_cases hg:Ay (a,b)=Rm
 ·rw[ai hg]at h;cases h;rw[nO e0,lC e1,uQ e2];exact⟨rfl,(xX _).mp hg⟩
 ·rw[aq hg]at h;cases h
theorem qS {w:Nat×gK}(h:Good w):dW (iP w)=My w:=by show(lY (gO w.1)).bind (λ n=>(dTt (iJ w.2)).bind λ l=>if Ay (n,l)=Rm then My (n,l) else Rl)=_;rw[jW,uR,aB,aB,ai ((xX _).mpr h)]
def mM:List Dt->gF Dt
 | [x,y]=>(dTs x).bind λ l=>(lY y).bind λ p=>if l.length<=30 then My (.tup ((nb l p).map gO)) else Rl
 | _=>Rl
def kg:List Dt->gF Dt
 | [x,y]=>(dTs x).bind λ l=>(lY y).bind λ p=>if l.length<=30 then My (.dct (jK (bfs l p))) else Rl
 | _=>Rl
abbrev Az:List Str:=["things"]
def qi:DE->gF RD:=(kM (lq 2 (gLC ["a","b"] [1] (gI k_ (gS 0)) (nM 0 1) (gB (hU rP (gS 1) (gS 2))) (gS 0))) (kM (lq 3 (gLC ["a","b"] [1] (gI k_ (gS 0)) (nM 0 1) (gB (hU rP (gS 0) (gS 2))) (gS 1))) (kN (iU oB (gN (iU (rS srt) (gN (hU qu (gS 2) (gS 3)) gR)) gR)))))
abbrev DR:List Str:=["ties","place","lesser","greater"]
theorem Iw (l:gK):((l.map g6).zip (l.tail.map g6)).map (λ(p,q)=>Dt.tup [p,q])=(l.zip l.tail).map λ pq=>Dt.tup [g6 pq.1,g6 pq.2]:=by rw[List.zip_map,bq];rfl
theorem rZ (a b:Nat):((a:Int)==(b:Int))=(a==b):=by rw[bC];simp;lia
set_option tactic.hygienic true in
theorem BW:Hg 2 DR mM qi:=by
 intro ds d hl h;match ds,h with
 | [x,y],h =>
  obtain⟨l,e1,h⟩:=gQ (show(dTs x).bind _=_ from h);obtain⟨p,e2,h⟩:=gQ h;split at h
  ·rename_i hc
   cases h;rw[lC e2];refine⟨.rt (.tup ((nb l p).map gO)),?_,rfl⟩;have lc1:=la (enc:=g6) (gg:=nM 0 1) (gt:=gB (hU rP (gS 1) (gS 2))) (ge:=gS 0) (δc:=[Rl,Rl,My (gO p)]) (δa:=λ t=>[My (gO t.1),My (gO t.2),My (gO p)]) (p:=λ t=>t.2==p) (enc':=λ t=>gO t.1) l λ a _=>⟨rfl,by simp[gO,rZ],λ _=>rfl⟩
   have lc2:=la (enc:=g6) (gg:=nM 0 1) (gt:=gB (hU rP (gS 0) (gS 2))) (ge:=gS 1) (δc:=[Rl,Rl,My (gO p)]) (δa:=λ t=>[My (gO t.1),My (gO t.2),My (gO p)]) (p:=λ t=>t.1==p) (enc':=λ t=>gO t.2) l λ a _=>⟨rfl,by simp[gO,rZ],λ _=>rfl⟩
   have hlen:l.length<=1000:=by lia
   have f1:=fb (λ t:Nat×Nat=>t.2==p) l;have f2:=fb (λ t:Nat×Nat=>t.1==p) l;have e5:((l.filter λ t=>t.2==p).map (λ t=>gO t.1))++((l.filter λ t=>t.1==p).map λ t=>gO t.2)=((l.filter λ t=>t.2==p).map (λ t=>(t.1:Int))++(l.filter λ t=>t.1==p).map λ t=>(t.2:Int)).map Dt.int:=by simp[gO,dw]
   have e6:qu (.lst ((l.filter λ t=>t.2==p).map (λ t=>gO t.1))) (.lst ((l.filter λ t=>t.1==p).map λ t=>gO t.2))=My (.lst (((l.filter λ t=>t.2==p).map (λ t=>(t.1:Int))++(l.filter λ t=>t.1==p).map λ t=>(t.2:Int)).map Dt.int)):=by show(if _ then My (Dt.lst _) else Rl)=_;rw[ai (by simp only[ah];lia),e5]
   have e7:rS srt [.lst (((l.filter λ t=>t.2==p).map (λ t=>(t.1:Int))++(l.filter λ t=>t.1==p).map λ t=>(t.2:Int)).map Dt.int)]=My (.lst ((nb l p).map gO)):=by show(if _ then _ else Rl)=_;rw[ai (by simp only[ah,aC];lia),qh];have:=FP l p;unfold nbI at this;rw[fv,this,bq];rfl
   generalize ((l.filter λ t=>t.2==p).map (λ t=>(t.1:Int))++(l.filter λ t=>t.1==p).map λ t=>(t.2:Int)).map Dt.int=zs at e6 e7;generalize ((l.filter λ t=>t.2==p).map (λ t=>gO t.1))=xs at lc1 e6;generalize ((l.filter λ t=>t.1==p).map (λ t=>gO t.2))=ys at lc2 e6;rcases Iv e1 with rfl | rfl
   ·simp[qi,lc1,lc2,hlen,e6,e7]
   ·simp[qi,lc1,lc2,hlen,e6,e7]
  ·cases h
theorem AA {n:Nat}(h:n<=1000000):Ah [gO n]=My ((Ro n).map λ(i:Nat)=>gO i):=by show(if (n:Int)<=1000000/\-1000000<=(n:Int) then My ((Ro (n:Int).toNat).map λ(i:Nat)=>Dt.int i) else Rl)=_;rw[ai (by lia),bS]
theorem Iy {l:gK}(h:l.length<=30)(p:Nat):mM [iJ l,gO p]=My (.tup ((nb l p).map gO)):=by show(dTs (iJ l)).bind (λ l=>(lY (gO p)).bind λ p=>if l.length<=30 then My (Dt.tup ((nb l p).map gO)) else Rl)=_;rw[uS,jW,aB,aB,ai h]
theorem FQ {x:Dt}{l:gK}(e:dTs x=My l)(h:l.length<=30)(p:Nat):mM [x,gO p]=My (.tup ((nb l p).map gO)):=by show(dTs x).bind (λ l=>(lY (gO p)).bind λ p=>if l.length<=30 then My (Dt.tup ((nb l p).map gO)) else Rl)=_;rw[e,jW,aB,aB,ai h]
abbrev Web:=Nat×gK
def Kk (K:gG)(J:It)(H:Hp)(ds:List Dt):Prop:=∀ H',j_ H H'->(∀ (i:Nat) d,ds[i]?=My d->J.go i H'/\∀ x H'',J.yld i H' x H''->H''=H'/\Is K H'' x d)/\J.stop ds.length H'
def iDT (K:gG)(g:DE->gF (List Dt)):TI:=λ σ H R=>∃ δ ds,Sat K H σ δ/\g δ=My ds/\qt ds/\∀ J H',gY H H'->Kk K J H' ds->R J H'
section
variable {X:Cx}{e:Expr}{tg:Expr}
theorem Iz {g:DE->gF Dt}(h:PD X e g):PI X tg e (iDT X.K (gI vJ g)):=(EF h).of λ σ H R hz1=>by obtain⟨δ,ds,S,q,im,k⟩:=hz1;obtain⟨x,e1,e2⟩:=gQ q;have e2:=tM e2;subst e2;refine⟨δ,_,S,e1,λ v H1 s1 i1=>?_⟩;obtain⟨a,xs,rfl,hq,is⟩:=i1.ip;refine⟨a,rfl,⟨xs,hq⟩,k _ H1 s1 λ H2 s2=>⟨λ i d hd=>?_,⟨xs,s2.tI hq,by rw[is.length];exact ar _⟩⟩⟩;have is2:=is.text s2 im;obtain⟨v,hv,iv⟩:=is2.get hd;exact⟨⟨xs,v,s2.tI hq,hv⟩,λ x H3 hz2=>by obtain⟨e3,y⟩:=hz2;subst e3;have:=y xs (s2.tI hq);rw[hv]at this;cases this;exact⟨rfl,iv⟩⟩
theorem FT {K:gG}{J:It}{H0:Hp}{ds:List Dt}(ok:Kk K J H0 ds){g:TG}{tb:TS}{D:Ends}{σ:St}{H:Hp}(Pv:Nat->St->Hp->Prop)(h0:Pv 0 σ H)(hl:∀ i σ H,i<=ds.length->Pv i σ H->j_ H0 H)
  (hs:∀ i d x σ H,ds[i]?=My d->Is K H x d->Pv i σ H->g x σ H λ σ2 H2=>tb {D with nx:=Pv (i+1),ct:=Pv (i+1),bk:=D.nx} σ2 H2) (hd:∀ σ H,Pv ds.length σ H->D.nx σ H) :
  ∃ W:Nat->Nat->St->Hp->Prop,(∃ m,W 0 m σ H)/\∀ i m σ H,W i m σ H ->
   (J.stop i H/\D.nx σ H)\/(J.go i H/\∃ N:St->Hp->Prop,(∀ σ' H',N σ' H'->∃ m',m'<m/\W (i+1) m' σ' H')/\∀ x H',J.yld i H x H'->g x σ H' λ σ2 H2=>tb {D with nx:=N,ct:=N,bk:=D.nx} σ2 H2):=by
 refine⟨λ i m σ H=>m=ds.length-i/\i<=ds.length/\Pv i σ H,⟨ds.length,by simp,aQ _,h0⟩,?_⟩;rintro i m σ H ⟨rfl,hi,p⟩;obtain⟨items,stop⟩:=ok H (hl i σ H hi p);by_cases hlt:i<ds.length
 ·have hdi:ds[i]?=My ds[i]:=by simp[hlt]
  obtain⟨go,yld⟩:=items i _ hdi;refine .inr ⟨go,Pv (i+1),λ σ' H' p'=>⟨ds.length-(i+1),by lia,rfl,hlt,p'⟩,λ x H' y=>?_⟩;obtain⟨rfl,ix⟩:=yld x H' y;exact hs i _ x σ _ hdi ix p
 ·have e:i=ds.length:=by lia
  subst e;exact .inl ⟨stop,hd σ H p⟩
end
theorem mO (fd:gK)(k:Nat):nv fd k=Rm↔k∈fd.map (·.1):=by unfold nv;simp[fg]
theorem r8 (fd:gK)(k:Nat):mS (kvD (jK fd)) (Sum.inl (k:Int))=if nv fd k=Rm then My (.int (look fd k)) else Rl:=by
 induction fd with
 | nil=>rfl
 | cons p r ih =>
  by_cases h:p.1=k
  ·have e1:mS (kvD (jK (p::r))) (Sum.inl (k:Int))=My (.int p.2):=rB (p:=(Sum.inl (p.1:Int),V.int p.2)) (by rw[h])
   rw[e1];have e2:nv (p::r) k=Rm:=by rw[mO];simp[h]
   have e3:look (p::r) k=p.2:=by unfold look;rw[a_];simp[h]
   rw[ai e2,e3]
  ·have hne:¬ (Sum.inl (p.1:Int):Key)=Sum.inl (k:Int):=λ q=>h (by have:=Sum.inl.inj q;lia)
   have e1:mS (kvD (jK (p::r))) (Sum.inl (k:Int))=mS (kvD (jK r)) (Sum.inl (k:Int)):=by show mS ((Sum.inl (p.1:Int),V.int p.2)::kvD (jK r)) _=_;unfold mS;rw[de];have:decide ((Sum.inl (p.1:Int):Key)=Sum.inl (k:Int))=Rn:=decide_eq_false hne;simp only[this]
   have e2:nv (p::r) k=nv r k:=by unfold nv;simp[h]
   have e3:look (p::r) k=look r k:=by
    unfold look;rw[a_];have:(k==p.1)=Rn:=by simpa using bj h
    rw[this]
   rw[e1,e2,e3,ih]
theorem FU {fd:gK}{k:Nat}(v:Nat)(h:nv fd k=Rn):putK (kvD (jK fd)) (Sum.inl (k:Int)) (.int v)=kvD (jK (fd++[(k,v)])):=by
 have e:mS (kvD (jK fd)) (Sum.inl (k:Int))=Rl:=by rw[r8,h];rfl
 rw[ER _ e];simp[kvD,jK]
def univ (l:gK)(s:Nat):List Nat:=s::(l.map (·.1)++l.map (·.2))
theorem pP {l:gK}{p j:Nat}:j∈nb l p↔(j,p)∈l\/(p,j)∈l:=by
 rw[(C3 l p).mem_iff,aM,aA,aA];simp only[bg,beq_iff_eq];constructor
 ·rintro (⟨⟨a,b⟩,⟨h1,h2⟩,rfl⟩ | ⟨⟨a,b⟩,⟨h1,h2⟩,rfl⟩)
  ·simp at h2;subst h2;exact .inl h1
  ·simp at h2;subst h2;exact .inr h1
 ·rintro (h | h)
  ·exact .inl ⟨(j,p),⟨h,rfl⟩,rfl⟩
  ·exact .inr ⟨(p,j),⟨h,rfl⟩,rfl⟩
theorem C4 {l:gK}{s p j:Nat}(h:j∈nb l p):j∈univ l s:=by
 refine aw _ ?_;rcases pP.mp h with h | h
 ·exact bc _ (aA.mpr ⟨_,h,rfl⟩)
 ·exact aT _ (aA.mpr ⟨_,h,rfl⟩)
structure BI (u:List Nat)(st:gK×List Nat):Prop where
 nd:(st.1.map (·.1)).Nodup
 sub:∀ q∈st.1,q.1∈u
 by':∀ j∈st.2,j∈st.1.map (·.1)
set_option tactic.hygienic true in
theorem xY {u:List Nat}{st:gK×List Nat}{p j:Nat}(h:BI u st)(hj:j∈u):BI u (i_ p st j):=by
 unfold i_;split
 ·exact h
 ·rename_i hk
  have hk:j∉st.1.map (·.1):=λ m=>hk ((mO _ _).mpr m);refine⟨?_,?_,?_⟩
  ·rw[bD];exact yE h.nd hk
  ·intro q hq
   rcases aM.mp hq with z | z
   ·exact h.sub q z
   ·rw[aV.mp z];exact hj
  ·intro i hi
   rw[bD];rcases aM.mp hi with z | z
   ·exact bc _ (h.by' i z)
   ·rw[aV.mp z];exact aT _ (by simp)
theorem vO {st:gK×List Nat}{p j:Nat}:(i_ p st j).1.length+st.2.length=st.1.length+(i_ p st j).2.length:=by unfold i_;split<;>simp<;>lia
theorem pQ {st:gK×List Nat}{p j k:Nat}(h:k∈st.1.map (·.1)):k∈(i_ p st j).1.map (·.1):=by
 unfold i_;split
 ·exact h
 ·rw[bD];exact bc _ h
theorem r9 {α:Type}{f:gK×List Nat->α->gK×List Nat}{u:List Nat}:∀ (xs:List α) {st:gK×List Nat},(∀ x∈xs,∀ st,BI u st->BI u (f st x))->BI u st->BI u (xs.foldl f st)
 | [],_,_,h=>h
 | x::r,_,hf,h=>r9 r (λ y hy=>hf y (aw _ hy)) (hf x ay _ h)
theorem pR {α:Type}{f:gK×List Nat->α->gK×List Nat}(hf:∀ st x,(f st x).1.length+st.2.length=st.1.length+(f st x).2.length):∀ (xs:List α) (st:gK×List Nat),(xs.foldl f st).1.length+st.2.length=st.1.length+(xs.foldl f st).2.length
 | [],_=>rfl
 | x::r,st=>by have h1:=hf st x;have h2:=pR hf r (f st x);rw[cH];lia
theorem mP {α:Type}{f:gK×List Nat->α->gK×List Nat}(hf:∀ st x k,k∈st.1.map (·.1)->k∈(f st x).1.map (·.1)):∀ (xs:List α) (st:gK×List Nat) (k:Nat),k∈st.1.map (·.1)->k∈(xs.foldl f st).1.map (·.1)
 | [],_,_,h=>h
 | x::r,st,k,h=>mP hf r (f st x) k (hf st x k h)
theorem AB {l:gK}{s p:Nat}{st:gK×List Nat}(h:BI (univ l s) st):BI (univ l s) (visit l st p):=r9 _ (λ _ hx _ hs=>xY hs (C4 hx)) h
theorem xZ {l:gK}{p:Nat}(st:gK×List Nat):(visit l st p).1.length+st.2.length=st.1.length+(visit l st p).2.length:=pR (λ _ _=>vO) _ st
theorem qT {l:gK}{p:Nat}(st:gK×List Nat)(k:Nat)(h:k∈st.1.map (·.1)):k∈(visit l st p).1.map (·.1):=mP (λ _ _ _=>pQ) _ st k h
theorem vP {l:gK}{s:Nat}{fd:gK}{ic:List Nat}(h:BI (univ l s) (fd,[])):BI (univ l s) (jM l fd ic):=r9 _ (λ _ _ _ hs=>AB hs) h
theorem tO {l:gK}{fd:gK}{ic:List Nat}:(jM l fd ic).1.length=fd.length+(jM l fd ic).2.length:=by have:=pR (f:=visit l) (λ st p=>xZ st) ic (fd,[]);unfold jM;simpa using this
theorem BI.le {u:List Nat}{st:gK×List Nat}(h:BI u st):st.1.length<=u.length:=by
 have h1:(st.1.map (·.1)).length<=u.length:=by
  have hs:∀ x∈st.1.map (·.1),x∈u:=λ x hx=>by obtain⟨q,hq,rfl⟩:=aA.mp hx;exact h.sub q hq
  exact aK h.nd hs
 simpa using h1
theorem r_ (l:gK)(s:Nat):(univ l s).length=2*l.length+1:=by simp[univ];lia
theorem IA {k:Nat}{A:Around}(hr:jt k A):A.units<cLine:=by have:=h_ hr;lia
section
variable {K:gG}
end
end L2
namespace L2
open PySem PySem.W PySem.Spec PyProof.Rows Tb
section
variable {X:Cx}
theorem ui:jq X (.type "range") (λ xs H Q=>∃ j:Int,xs=[V.int j]/\∀ p,H p=Rl->Q (.ref p) (upd H p (.rng 0 j))):=by intro pins s σ H xs us Q I r h;obtain⟨j,rfl,q⟩:=h;obtain⟨u,rfl,t,rfl⟩:=vals1 r;refine call_range_1 ?_;have hn:=I.hok.fresh (ar s.heap.objs.size);exact⟨.ref s.heap.objs.size,_,I.laid (o:=.rng 0 j) (λ b o e=>ag _ e) (ar _) ⟨_,_,_,aE _ rfl⟩,rfl,q _ hn⟩
theorem vQ (hc:X.calm=Rm):jq X (.type "list") (λ xs H Q=>∃ (r:Addr) (n:Nat),xs=[V.ref r]/\H r=My (.rng 0 n)/\n<=1000/\∀ p,H p=Rl->Q (.ref p) (upd H p (.lst ((Ro n).map λ(i:Nat)=>V.int i)))):=by
 intro pins s σ H xs us Q I r h;obtain⟨a,n,rfl,ha,hn,q⟩:=h;obtain⟨u,rfl,ru⟩:=vals1 r;cases ru;obtain⟨t,t',t'',e⟩:=I.hok a _ ha;have hsz:Builtin.Range.rangeSize 0 (n:Int) 1=n:=by rw[rangeSize_one];split<;>lia
 refine call_list_range (I.ok.hd hc) (show IsRange s.heap a 0 n 1 t t' t'' from e) (small_one (by lia) (by lia) (by lia) (by lia)) hsz (by lia) λ h' tk acc c kp ho ia=>?_;have hfr:=I.hok.fresh (ar s.heap.objs.size);refine⟨.ref s.heap.objs.size,_,I.laid (o:=.lst ((Ro n).map λ(i:Nat)=>V.int i)) kp (ar _) ⟨?_,acc.toList,c,?_,by simpa using ho⟩,rfl,q _ hfr⟩
 ·simp;rw[sizeLine_eq];lia
 ·obtain⟨i1,i2⟩:=ia
  have go:∀ (k:Nat) (l:List gH),l.length=k->(∀ (j:Nat) v,l[j]?=My v->∃ t,v=Value.int (0+(j:Int)*1) t)->Vals ((Ro k).map λ(i:Nat)=>V.int i) l:=by
   intro k;induction k with
   | zero=>intro l hl _;rw[dF.mp hl];exact .nil
   | succ k ih =>
    intro l hl hv;have e2:l=l.take k++[l[k]'(by lia)]:=by
     have h1:l.take (k+1)=l.take k++[l[k]'(by lia)]:=by rw[eX,aG (by lia)];rfl
     rw[<-h1,dP (by lia)]
    rw[e2,List.range_succ,bD];refine Vals.append (ih _ (by rw[bf];lia) λ j v hj=>?_) (.cons ?_ .nil)
    ·by_cases hjk:j<k
     ·rw[eg hjk]at hj;exact hv j v hj
     ·rw[bV (by rw[bf];lia)]at hj;cases hj
    ·obtain⟨t,ht⟩:=hv k (l[k]'(by lia)) (by simp);exact⟨t,by rw[ht];congr 1;lia⟩
  exact go n acc.toList (by simpa using i1) λ j v hj=>i2 j v (by rw[<-bh];exact hj)
end
end L2
namespace L2
open PySem PySem.Spec PyProof.Rows Zp
section
variable {X:Cx}{a b e o:Expr}{es:List Expr}{pos:Pos}
def yY (d:Dt):gF Dt:=(uB d).bind λ j=>if 0<=j/\j<=1000 then My (.lst ((Ro j.toNat).map λ(k:Nat)=>.int k)) else Rl
theorem FV {ga:DE->gF Dt}{p1 p2 pos2:Pos}(hc:X.calm=Rm)(hl:X.mg "list"=Rl)(hr:X.mg "range"=Rl)(ha:PD X a ga)(g1:Gl X "list":=by rfl)(g2:Gl X "range":=by rfl)
  (hs:starEach [a] X.env=[(Rn,eval a X.env)]:=by rfl) (hs2:starEach [Expr.Call (.Name "range" p2) [a] [] pos2] X.env=[(Rn,eval (.Call (.Name "range" p2) [a] [] pos2) X.env)]:=by rfl) :
  PD X (.Call (.Name "list" p1) [.Call (.Name "range" p2) [a] [] pos2] [] pos) (gUn yY ga) :=
 (kX (vQ hc) g1 hl boot_list (gP (kX ui g2 hr boot_range (gP ha g_ hs) (he:=hs)) g_ hs2) (he:=hs2)).of λ σ H Q hz=>by
  obtain⟨δ,d,S,eq,q⟩:=hz;obtain⟨x,e1,f1⟩:=gQ eq;obtain⟨j,e2,f2⟩:=gQ f1;obtain rfl:=lX e2;by_cases hj:0<=j/\j<=1000
  ·rw[ai hj]at f2;cases f2;obtain⟨n,rfl⟩:∃ n:Nat,j=n:=⟨j.toNat,by lia⟩;refine⟨δ,_,S,e1,λ v H1 s1 i1=>⟨n,by rw[i1.int_inv],λ r hr0=>⟨r,n,rfl,gW,by lia,λ l hl0=>q _ _ ((s1.trans (gY.upd hr0)).trans (gY.upd hl0)) (.lst gW ?_)⟩⟩⟩;have:=Iss.CQ (K:=X.K) (H:=upd (upd H1 r (.rng 0 n)) l (.lst ((Ro n).map λ(i:Nat)=>V.int i))) ((Ro n).map λ(k:Nat)=>(k:Int));rw[bq,bq]at this;exact this
  ·rw[aq hj]at f2;cases f2
end
structure Drawn (m:Nat)(cl:List Nat)(tb te:gK):Prop where
 m2:2<=m
 m8:m<=8
 perm:cl.Perm (Ro m)
 tbl:tb.length=m-1
 tbk:∀ k,k<m-1->∃ a,tb[k]?=My (a,k+1)/\a<=k
 teo:∀ t∈te,t.1<m/\t.2<m/\t.1≠t.2
 tel:te.length<=12
def rel (cl:List Nat)(t:Nat×Nat):Nat×Nat:=(min (cl.getD t.1 0) (cl.getD t.2 0),max (cl.getD t.1 0) (cl.getD t.2 0))
def keys (fd:gK):List Nat:=fd.map (·.1)
def Done (l:gK)(fd:gK)(k:Nat):Prop:=∀ j∈nb l k,j∈keys fd
set_option tactic.hygienic true in
theorem BX {l:gK}(st:gK×List Nat)(p:Nat):Done l (visit l st p).1 p:=by
 intro j hj;unfold visit;have go:∀ (xs:List Nat) (st:gK×List Nat),j∈xs->j∈keys (xs.foldl (i_ p) st).1:=by
  intro xs;induction xs with
  | nil=>intro st h;cases h
  | cons x r ih =>
   intro st h;rw[cH];rcases ax.mp h with rfl | h
   ·refine mP (λ st p k hk=>pQ hk) r _ j ?_
    unfold i_;split
    ·rename_i hk;exact(mO _ _).mp hk
    ·rw[bD];exact aT _ (by simp)
   ·exact ih _ h
 exact go _ _ hj
theorem qU {l:gK}{fd:gK}:∀ (ic:List Nat) (st:gK×List Nat) (k:Nat),(k∈ic\/Done l st.1 k)->Done l (ic.foldl (visit l) st).1 k
 | [],st,k,h=>h.elim (λ z=>by cases z) id
 | e::r,st,k,h=>by
  rw[cH];refine qU (fd:=fd) r (visit l st e) k ?_;rcases h with h | h
  ·rcases ax.mp h with rfl | h
   ·exact .inr (BX st k)
   ·exact .inl h
  ·exact .inr λ j hj=>qT st j (h j hj)
set_option tactic.hygienic true in
theorem DS {l:gK}:∀ (ic:List Nat) (st:gK×List Nat) (k:Nat),k∈keys (ic.foldl (visit l) st).1->k∈keys st.1\/k∈(ic.foldl (visit l) st).2:=by
 have sub2:∀ (p:Nat) (xs:List Nat) (st:gK×List Nat) (k:Nat),k∈st.2->k∈(xs.foldl (i_ p) st).2:=by
  intro p xs;induction xs with
  | nil=>intro st k h;exact h
  | cons x r ih =>
   intro st k h;rw[cH];refine ih _ k ?_;unfold i_;split
   ·exact h
   ·exact bc _ h
 have new1:∀ (p:Nat) (xs:List Nat) (st:gK×List Nat) (k:Nat),k∈keys (xs.foldl (i_ p) st).1->k∈keys st.1\/k∈(xs.foldl (i_ p) st).2:=by
  intro p xs;induction xs with
  | nil=>intro st k h;exact .inl h
  | cons x r ih =>
   intro st k h;rw[cH]at h ⊢;rcases ih _ k h with z | z
   ·unfold i_ at z
    split at z
    ·exact .inl z
    ·rw[keys,bD]at z
     rcases aM.mp z with y | y
     ·exact .inl y
     ·refine .inr (sub2 p r _ k ?_)
      unfold i_;rename_i hk;rw[aq hk];have:k=x:=by simpa using y
      rw[this];exact aT _ (by simp)
   ·exact .inr z
 intro ic;induction ic with
 | nil=>intro st k h;exact .inl h
 | cons e r ih =>
  intro st k h;rw[cH]at h ⊢;have sub:∀ (xs:List Nat) (st:gK×List Nat) (k:Nat),k∈st.2->k∈(xs.foldl (visit l) st).2:=by
   intro xs;induction xs with
   | nil=>intro st k h;exact h
   | cons x r ih=>intro st k h;rw[cH];exact ih _ k (sub2 x _ st k h)
  rcases ih _ k h with z | z
  ·rcases new1 e _ st k z with y | y
   ·exact .inl y
   ·exact .inr (sub r _ k y)
  ·exact .inr z
theorem se {l:gK}{s:Nat}:∀ (m:Nat) (fd:gK) (ic:List Nat),BI (univ l s) (fd,ic)->(∀ k∈keys fd,k∈ic\/Done l fd k)->(ic≠[]->2*l.length+3<=m+fd.length) ->
  (∀ k∈keys (ny l m fd ic),Done l (ny l m fd ic) k)/\(∀ k∈keys fd,k∈keys (ny l m fd ic))/\BI (univ l s) (ny l m fd ic,[])
 | m,fd,[],bi,hd,_=>by
  have e:ny l m fd []=fd:=by cases m<;>rfl
  rw[e];exact⟨λ k hk=>(hd k hk).elim (λ z=>by cases z) id,λ k h=>h,⟨bi.nd,bi.sub,by simp⟩⟩
 | 0,fd,e::es,bi,hd,hf=>by have:=bi.le;rw[r_]at this;have h:=hf (by simp);have:fd.length<=2*l.length+1:=this;lia
 | m+1,fd,e::es,bi,hd,hf=>by
  have hf:=hf (by simp);have bi':BI (univ l s) (fd,[]):=⟨bi.nd,bi.sub,by simp⟩;have lb:=vP (ic:=e::es) bi';have ll:=tO (l:=l) (fd:=fd) (ic:=e::es);obtain⟨h1,h2,h3⟩:=se m (jM l fd (e::es)).1 (jM l fd (e::es)).2 ⟨lb.nd,lb.sub,lb.by'⟩ (λ k hk=>by
   rcases DS (l:=l) (e::es) (fd,[]) k hk with z | z
   ·exact .inr (qU (fd:=fd) (e::es) (fd,[]) k (hd k z))
   ·exact .inl z) (λ hne=>by
   have:0<(jM l fd (e::es)).2.length:=dD.mpr hne;lia)
  exact⟨h1,λ k hk=>h2 k (mP (λ st p k hk=>qT st k hk) (e::es) (fd,[]) k hk),h3⟩
theorem yZ {l:gK}{n:Nat}(ok:∀ p∈l,p.1<p.2/\p.2<n)(h0:0<n)(reach:∀ S:Nat->Prop,S 0->(∀ p∈l,S p.1↔S p.2)->∀ v,v<n->S v):(bfs l 0).length=n:=by
 obtain⟨h1,h2,h3⟩:=se (l:=l) (s:=0) (2*l.length+2) [(0,0)] [0] ⟨by simp,λ q hq=>by rw[aV.mp hq];exact ay,λ j hj=>by simpa using hj⟩ (λ k hk=>.inl (by simpa [keys] using hk)) (λ _=>by simp);have e:ny l (2*l.length+2) [(0,0)] [0]=bfs l 0:=rfl;rw[e]at h1 h2 h3;have sub:∀ k∈keys (bfs l 0),k∈Ro n:=λ k hk=>by
  obtain⟨q,hq,rfl⟩:=aA.mp hk;rw[aD];have:=h3.sub q hq;rcases ax.mp this with z | z
  ·rw[z];exact h0
  ·rcases aM.mp z with z | z<;>(obtain⟨p,hp,e⟩:=aA.mp z;have:=ok p hp;rw[<-e];lia)
 have all:=reach (λ v=>v∈keys (bfs l 0)) (h2 0 (by simp[keys])) λ p hp=>⟨λ h=>h1 _ h _ (pP.mpr (.inr hp)),λ h=>h1 _ h _ (pP.mpr (.inl hp))⟩;have le1:(keys (bfs l 0)).length<=(Ro n).length:=aK h3.nd sub;have le2:(Ro n).length<=(keys (bfs l 0)).length:=aK cM λ v hv=>all v (aD.mp hv);rw[b_]at le1 le2;have:(keys (bfs l 0)).length=(bfs l 0).length:=by simp[keys]
 lia
theorem kO (p q:Nat×Nat):mj p q=Rm↔p.1<q.1\/(p.1=q.1/\p.2<q.2):=by
 unfold mj;by_cases h1:(p.1:Int)=q.1
 ·have h1':p.1=q.1:=by lia
  by_cases h2:(p.2:Int)=q.2
  ·have h2':p.2=q.2:=by lia
   simp[HT.lexLt,h1,h2,h1',h2']
  ·simp[HT.lexLt,h1,h2,h1']
 ·have h1':¬ p.1=q.1:=by lia
  simp[HT.lexLt,h1,h1']
theorem y_:∀ {l:gK},l.Pairwise (λ a b=>mj a b=Rm)->rise l=Rm
 | [],_=>rfl
 | [_],_=>rfl
 | a::b::r,h=>by have h1:=(eF.mp h).1 b ay;have ih:=y_ (eF.mp h).2;unfold rise at ih ⊢;simp only[List.tail_cons,fF,List.all_cons,h1,Bool.true_and]at ih ⊢;exact ih
theorem AD {l:gK}(h:l.Pairwise (λ a b=>mj a b=Rm)):l.Nodup:=by rw[aI];refine h.imp λ{a b} hab e=>?_;subst e;have:=(kO a a).mp hab;lia
section
variable {m:Nat}{cl:List Nat}{tb te:gK}(D:Drawn m cl tb te)
include D
theorem Drawn.len:cl.length=m:=by rw[D.perm.length_eq,b_]
theorem Drawn.lt {i:Nat}(h:i<m):cl.getD i 0<m:=by
 have hl:i<cl.length:=by rw[D.len];exact h
 rw[aF,aG hl];exact aD.mp (D.perm.mem_iff.mp (dJ hl))
theorem Drawn.inj {i j:Nat}(hi:i<m)(hj:j<m)(e:cl.getD i 0=cl.getD j 0):i=j:=by
 have h1:i<cl.length:=by rw[D.len];exact hi
 have h2:j<cl.length:=by rw[D.len];exact hj
 rw[aF,aG h1,aF,aG h2]at e;have nd:cl.Nodup:=D.perm.nodup_iff.mpr cM;exact(List.getElem_inj nd).mp e
theorem Drawn.sur {v:Nat}(h:v<m):∃ i,i<m/\cl.getD i 0=v:=by obtain⟨i,hi,e⟩:=bW (D.perm.mem_iff.mpr (aD.mpr h));exact⟨i,by rw[<-D.len];exact hi,by rw[aF,aG hi];exact e⟩
theorem Drawn.all {t:Nat×Nat}(h:t∈tb++te):t.1<m/\t.2<m/\t.1≠t.2:=by
 rcases aM.mp h with h | h
 ·obtain⟨k,hk,e⟩:=bW h
  have hk':k<m-1:=by rw[<-D.tbl];exact hk
  obtain⟨a,e1,ha⟩:=D.tbk k hk';rw[aG hk,e]at e1;cases e1;exact⟨by show a<m;lia,by show k+1<m;lia,by show a≠k+1;lia⟩
 ·exact D.teo t h
theorem Drawn.NH {t:Nat×Nat}(h:t∈tb++te):(rel cl t).1<(rel cl t).2/\(rel cl t).2<m:=by obtain⟨h1,h2,h3⟩:=D.all h;have l1:=D.lt h1;have l2:=D.lt h2;have ne:cl.getD t.1 0≠cl.getD t.2 0:=λ e=>h3 (D.inj h1 h2 e);unfold rel;simp only;lia
theorem IB {ss:gK}(hp:ss.Pairwise (λ a b=>mj a b=Rm))(hm:∀ t,t∈ss↔t∈(tb++te).map (rel cl)):Good (m,ss)/\(te=[]->ss.length+1=m):=by
 have m2:=D.m2;have m8:=D.m8;have nd:=AD hp;have ok:∀ p∈ss,p.1<p.2/\p.2<m:=λ p h=>by obtain⟨t,ht,rfl⟩:=aA.mp ((hm p).mp h);exact D.NH ht
 have len1:ss.length<=((tb++te).map (rel cl)).length:=aK nd λ t h=>(hm t).mp h;have len2:ss.length<=30:=by have:=D.tel;have:=D.tbl;simp at len1;lia
 have tie:∀ k,k<m-1->∃ a,a<=k/\(a,k+1)∈tb:=λ k hk=>by obtain⟨a,e,ha⟩:=D.tbk k hk;exact⟨a,ha,aY e⟩
 refine⟨⟨m2,m8,ok,y_ hp,?_,len2,?_⟩,λ hte=>?_⟩
 ·refine yZ ok (by lia) λ S s0 cls v hv=>?_
  have step:∀ k,k<m-1->∃ a,a<=k/\(S (cl.getD a 0)↔S (cl.getD (k+1) 0)):=λ k hk=>by
   obtain⟨a,ha,mem⟩:=tie k hk;refine⟨a,ha,?_⟩;have h:=cls (rel cl (a,k+1)) ((hm _).mpr (aA.mpr ⟨_,bc _ mem,rfl⟩));unfold rel at h;simp only at h;by_cases hc:cl.getD a 0<=cl.getD (k+1) 0
   ·rw[fA hc,fY hc]at h;exact h
   ·rw[fi (by lia),gm (by lia)]at h;exact h.symm
  have con:∀ i,i<m->(S (cl.getD 0 0)↔S (cl.getD i 0)):=by
   intro i;induction i using Nat.strongRecOn with
   | ind i ih =>
    intro hi;cases i with
    | zero=>exact Iff.rfl
    | succ k =>obtain⟨a,ha,hs⟩:=step k (by lia);exact(ih a (by lia) (by lia)).trans hs
  obtain⟨i0,h0,e0⟩:=D.sur (v:=0) (by lia);obtain⟨i,hi,e⟩:=D.sur hv;rw[<-e];refine(con i hi).mp ((con i0 h0).mpr ?_);rw[e0];exact s0
 ·obtain⟨a,_,mem⟩:=tie 0 (by lia);intro e;have:=(hm (rel cl (a,0+1))).mpr (aA.mpr ⟨_,bc _ mem,rfl⟩);have e:ss=[]:=e;rw[e]at this;cases this
 ·subst hte
  rw[bt]at hm;have ndr:(tb.map (rel cl)).Nodup:=by
   rw[aI,bp,bM];intro i j hi hj hij e;obtain⟨a,e1,ha⟩:=D.tbk i (by rw[<-D.tbl];exact hi);obtain⟨b,e2,hb⟩:=D.tbk j (by rw[<-D.tbl];exact hj);rw[aG hi]at e1;rw[aG hj]at e2;rw[ak e1,ak e2]at e;have hi':i<m-1:=by rw[<-D.tbl];exact hi
   have hj':j<m-1:=by rw[<-D.tbl];exact hj
   unfold rel at e;simp only[Prod.mk.injEq]at e;have hc:(cl.getD a 0=cl.getD b 0/\cl.getD (i+1) 0=cl.getD (j+1) 0)\/(cl.getD a 0=cl.getD (j+1) 0/\cl.getD (i+1) 0=cl.getD b 0):=by lia
   rcases hc with⟨c1,c2⟩ | ⟨c1,c2⟩
   ·have:=D.inj (by lia) (by lia) c2;lia
   ·have:=D.inj (by lia) (by lia) c1;have:=D.inj (by lia) (by lia) c2;lia
  have le2:(tb.map (rel cl)).length<=ss.length:=aK ndr λ t h=>(hm t).mpr h;have:=D.tbl;simp at len1 le2;show ss.length+1=m;lia
end
end L2
namespace L2
open PySem PySem.Spec PyProof.Rows
set_option genInjectivity false in
set_option genSizeOf false in
structure FnT (K:gG)(mg:gD)(n:Str)(s:Stmt)(ps:List Str) where
 f:Addr
 fd:FuncData
 F:Fun K n n s f fd
 m:mg n=My (.ref f)
 bb:∀ us:List gH,us.length=ps.length->bindArgs fd ⟨us,[]⟩=pure (ps.zip us)
theorem FnT.b {K:gG}{mg:gD}{n:Str}{s:Stmt}{ps:List Str}(t:FnT K mg n s ps):Binds K t.fd ps []:=.all t.bb
structure CtT (K:gG)(mg:gD)(n:Str)(d:Dt) where
 u:gH
 v:V
 m:mg n=My u
 r:RelV v u
 i:∀ H,Is K H v d
abbrev OkT {K:gG}{mg:gD}{n:Str}{s:Stmt}{ps:List Str}(P:Program)(w:World)(base:Heap)(t:FnT K mg n s ps)(k:Nat)(sp:Sp):Prop:=pE P w K mg base CX0 k t.f t.fd ps sp
theorem FnT.okD {P:Program}{w:World}{base:Heap}{K:gG}{mg:gD}{n:Str}{st:Stmt}{ps N:List Str}{k:Nat}{fD:List Dt->gF Dt}{g:DE->gF RD}(t:FnT K mg n st ps)(S:iI N ps (gZ st))
  (hbody:∀ (cdv:gH) (A:Around) (outer:List Env) (s:gJ) (H:Hp) (E:XK),jt k (A.deeper (envOfC n (gZ st) s.heap.objs.size t.f cdv)) ->
   PSs (pj CX0 P w K mg base N n (gZ st) t.f cdv A outer s H E).nox (iL st) (tDS K g))
  (hg:∀ ds d,ds.length=ps.length->fD ds=My d->∃ r,g (qQ N ds)=My r/\LC r=d):OkT P w base t (k+1) (spD K ps.length fD):=t.F.okD S hbody hg
section
variable {X:Cx}{e:Expr}{es:List Expr}{pos p:Pos}{x:Str}{st:Stmt}{j k n:Nat}{ps:List Str}
theorem pC {sp:Sp}{t:TA}(T:FnT X.K X.mg x st ps)(F:pE X.prog X.w X.K X.mg X.base CX0 k T.f T.fd ps sp)(hr:jt j X.A)(ha:PA X (e::es) t)(hj:k<=j:=by decide)(hg:Gl X x:=by rfl)(hdb:(x==("__debug__":Str))=Rn:=by decide)(he:starEach (e::es) X.env=(Rn,eval e X.env)::starEach es X.env:=by rfl)(hpl:(backTo pos (starEach es X.env)).any (·.1)=Rn:=by rfl) :
  PE X (.Call (.Name x p) (e::es) [] pos) (jo sp [] E0 t):=uL F (hr.mono hj) hg T.m T.F.kp T.b .nil Ka ha hdb he hpl
theorem dC {fD:List Dt->gF Dt}{gs:DE->gF (List Dt)}(t:FnT X.K X.mg x st ps)(F:pE X.prog X.w X.K X.mg X.base CX0 k t.f t.fd ps (spD X.K n fD))(hr:jt j X.A)(ha:PDs X (e::es) gs)(hj:k<=j:=by decide)(hg:Gl X x:=by rfl)(hdb:(x==("__debug__":Str))=Rn:=by decide)(he:starEach (e::es) X.env=(Rn,eval e X.env)::starEach es X.env:=by rfl)(hpl:(backTo pos (starEach es X.env)).any (·.1)=Rn:=by rfl) :
  PD X (.Call (.Name x p) (e::es) [] pos) (iq n fD gs):=Lv F (hr.mono hj) t.m t.F.kp t.b ha hg hdb he hpl
theorem dG {d:Dt}(c:CtT X.K X.mg x d)(hg:Gl X x:=by rfl)(hd:(x==("__debug__":Str))=Rn:=by decide):PD X (.Name x pos) (gC d):=Lr c.m c.r c.i hg hd
theorem pgo (i:Nat)(hN:X.N.Nodup:=by trivial)(hi:X.N[i]?=My x:=by rfl)(hx:Loc X.env.scope x:=by trivial)(hf:X.fn x=Rm\/X.env.scope.names.lookup x=My .local:=by trivial):PG X (.Name x pos) (iM i):=Hy hN hi hx hf
theorem csc {scope:Scope}(own fr:List Str)(ix:List Nat)(h1:scope.kind=.function:=by rfl)(h2:(scope.names.all λ x=>x.2 != .local || scope.names.lookup x.1==My .local)=Rm:=by rfl)
  (h3:(scope.names.all λ x=>x.2 != .cell)=Rm:=by rfl) (h4:(scope.names.all λ x=>x.2 != .free || (X.env.kindOf x.1==My .cell || X.env.kindOf x.1==My .free))=Rm:=by rfl)
  (h5:(own.all λ x=>scope.names.lookup x==My .local)=Rm:=by rfl) (h6:(fr.all λ x=>scope.names.lookup x==My .free)=Rm:=by rfl) (h7:ix.map (λ i=>X.N[i]?)=fr.map My:=by rfl) (h8:(own++fr).Nodup:=by decide +kernel):ly X scope own fr ix:=LH h1 h2 h3 h4 h5 h6 h7 h8
end
theorem ls0 {P:List gH->Prop}(h:P [])(us:List gH)(e:us.length=0):P us:=by rw[fu e];exact h
theorem lsS {P:List gH->Prop}{k:Nat}(h:∀ a us,us.length=k->P (a::us))(us:List gH)(e:us.length=k+1):P us:=by
 cases us with
 | nil=>cases e
 | cons a r=>exact h a r (Nat.succ.inj e)
theorem ls1 {P:List gH->Prop}(h:∀ a,P [a])(us:List gH)(e:us.length=1):P us:=lsS (k:=0) (λ a us e=>ls0 (P:=λ us=>P (a::us)) (h a) us e) us e
theorem ls2 {P:List gH->Prop}(h:∀ a b,P [a,b])(us:List gH)(e:us.length=2):P us:=lsS (k:=1) (λ a us e=>ls1 (P:=λ us=>P (a::us)) (h a) us e) us e
theorem ls3 {P:List gH->Prop}(h:∀ a b c,P [a,b,c])(us:List gH)(e:us.length=3):P us:=lsS (k:=2) (λ a us e=>ls2 (P:=λ us=>P (a::us)) (h a) us e) us e
theorem ls4 {P:List gH->Prop}(h:∀ a b c d,P [a,b,c,d])(us:List gH)(e:us.length=4):P us:=lsS (k:=3) (λ a us e=>ls3 (P:=λ us=>P (a::us)) (h a) us e) us e
section
variable {K:gG}{h:Heap}{mg:gD}{n:Str}(X:K.In h)(G:h.Ns mainGlobals mg)
def fnT {s:Stmt}{ps:List Str}{f:Addr}{od an:gF Addr}{sl:Array (gF gH)}{oc kV dc pm cd ct:gH}(a:PySem.W.nsIn K mainGlobals n=My (My (.ref f)))
  (l:K.lookup f=My ⟨oc,od,.func (PySem.W.fnOf n n (rC s) (iL s) (gZ s) .none kV dc pm an cd ct),sl⟩) (c:PySem.W.codeIn K cd n=Rm) (k:PySem.W.keepIn K (.ref f)=Rm)
  (hb:∀ (kV dc pm:gH) (an:gF Addr) (cd ct:gH) (us:List gH),us.length=ps.length->bindArgs (PySem.W.fnOf n n (rC s) (iL s) (gZ s) .none kV dc pm an cd ct) ⟨us,[]⟩=pure (ps.zip us):=by first | exact λ _ _ _ _ _ _=>L2.ls1 λ _=>rfl | exact λ _ _ _ _ _ _=>L2.ls2 λ _ _=>rfl | exact λ _ _ _ _ _ _=>L2.ls3 λ _ _ _=>rfl | exact λ _ _ _ _ _ _=>L2.ls4 λ _ _ _ _=>rfl | exact λ _ _ _ _ _ _=>L2.ls0 rfl):FnT K mg n s ps :=
 ⟨f,_,Lj (st:=s) l c k,el X G a,hb _ _ _ _ _ _⟩
def ctI {i:Int}{t:Tok}(a:PySem.W.nsIn K mainGlobals n=My (My (.int i t))):CtT K mg n (.int i):=⟨_,.int i,el X G a,⟨_,rfl⟩,λ _=>.int _⟩
end
open PySem.W Zp PySem.SeqAt Tb
def leP (a b:Nat×Nat):Bool:=!mj b a
def uE (l:gK):gK:=l.mergeSort leP
theorem qj (a b:Nat×Nat):leP a b=Rm↔a.1<b.1\/(a.1=b.1/\a.2<=b.2):=by
 unfold leP;have:=kO b a;cases e:mj b a with
 | true=>rw[e]at this;simp at this ⊢;lia
 | false=>rw[e]at this;simp at this ⊢;lia
theorem nR (l:gK):(uE l).Perm l:=List.mergeSort_perm l leP
theorem C5 (l:gK):(uE l).Pairwise λ a b=>leP a b=Rm:=List.pairwise_mergeSort (λ a b c h1 h2=>by rw[qj]at *;lia) (λ a b=>by rw[Bool.or_eq_true,qj,qj];lia) l
theorem FW {a b:Nat×Nat}(h1:leP a b=Rm)(h2:leP b a=Rm):a=b:=by rw[qj]at h1 h2;exact gu (by lia) (by lia)
theorem x_ {l m:gK}(h:m.Perm l)(hs:m.Pairwise λ a b=>leP a b=Rm):m=uE l :=
 (h.trans (nR l).symm).eq_of_pairwise (λ a b _ _ h1 h2=>FW h1 h2) hs (C5 l)
section
variable {X:Cx}{pins:gL}{σ:St}{H:Hp}{s:gJ}
def vR:List Dt->gF Dt:=tN λ x=>(dTt x).bind λ l=>if l.length<64 then My (.lst ((uE l).map g6)) else Rl
theorem FX (a b:Nat×Nat):pLt ((a.1:Int),(a.2:Int)) ((b.1:Int),(b.2:Int))=mj a b:=by rw[bC,oh,kO];simp;lia
theorem IC {v:V}{t:Nat×Nat}(i:Is X.K H v (g6 t)):∃ b,v=.ref b/\SqT X.K H b [.int t.1,.int t.2]:=by obtain⟨b,xs,rfl,hs,is⟩:=i.ip;obtain⟨u,u',rfl,j0,j1⟩:=is.two;rw[j0.int_inv,j1.int_inv]at hs;exact⟨b,rfl,hs⟩
theorem ID (I:Inv X pins σ H s){b:Addr}{i j:Int}(h:SqT X.K H b [.int i,.int j]):lj X.prog X.w s.heap [i,j] b:=by obtain⟨its,r,⟨o,e1,e2,n,e3⟩,_⟩:=I.tuple h;exact⟨o,its.toArray,n,e1,e2,e3,by simpa using om (k:=[i,j]) r⟩
theorem LL {ys:List V}{l:gK}(is:Iss X.K H ys (l.map g6)){j:Nat}(hj:j<l.length):∃ v,ys[j]?=My v/\Is X.K H v (g6 (l.getD j (0,0))):=by refine is.get (d:=g6 (l.getD j (0,0))) ?_;rw[aJ,aF,aG hj];rfl
theorem C6 {K:gG}{H:Hp}{α:Type}{f:α->V}{g:α->Dt}:∀ {p:List α},(∀ i∈p,Is K H (f i) (g i))->Iss K H (p.map f) (p.map g)
 | [],_=>.nil
 | i::r,h=>.cons (h i ay) (C6 λ j hj=>h j (aw _ hj))
theorem DT (hc:X.calm=Rm):jq X (.builtin "sorted") (cD X.K vR):=by
 intro pins s σ H xs us Q I rs hz;obtain⟨ds,d,is,e,q⟩:=hz;obtain⟨x,rfl,e1⟩:=kf e;obtain⟨l,e2,e3⟩:=gQ e1;obtain rfl:=uQ e2;clear e e1 e2;by_cases h64:l.length<64
 ·rw[ai h64]at e3
  cases e3;obtain⟨v,rfl,i⟩:=is.one;obtain⟨a,ys,rfl,ha,js⟩:=i.ip;obtain⟨u,rfl,ru⟩:=vals1 rs;cases ru;obtain⟨its,rv,pt,_⟩:=I.tuple ha;obtain⟨o,ho,hcl,nn,hda⟩:=id pt;have hyl:ys.length=l.length:=by rw[js.length,ah]
  have hvl:its.length=l.length:=by rw[<-rv.length,hyl]
  obtain⟨m,hm,_⟩:=id I.loc;have no:∀ b,(Att.jd s.heap).get? b=Rl:=λ b=>cA (aQ _);refine ee kind_sorted plain_sorted entry_sorted (args_sorted1 _) ?_;unfold Builtin.«sorted»;refine ae (m:=checkCount "sorted" 1 1 _) (af (ae (wpAny_collect_seq a (.inr rfl) ho hcl hda (λ h1 hk=>?_) (by rw[ao,sizeLine_eq];lia))));have hal:its.toArray.toList.length=l.length:=hvl;have at_j:∀ j,j<l.length->∃ b,its.toArray.toList[j]?=My (.ref b)/\ys[j]?=My (.ref b)/\SqT X.K H b [.int (l.getD j (0,0)).1,.int (l.getD j (0,0)).2]:=λ j hj=>by obtain⟨v,e1,i1⟩:=LL js hj;obtain⟨b,rfl,hs⟩:=IC i1;obtain⟨u,e2,r2⟩:=rv.get e1;cases r2;exact⟨b,e2,e1,hs⟩
  generalize its.toArray.toList=vs at hal at_j;refine ae (fU ?_ (by rw[sizeLine_eq];lia));have hL:X.env.locals<h1.objs.size:=by obtain⟨oL,_,_,ho,_⟩:=hm;exact av (hk _ _ ho)
  have keep1:∀ b o,s.heap.get? b=My o->(h1.push {cls:=.type "list",data:=.seq vs.toArray}).get? b=My o:=λ b o e=>ag _ (hk b o e);have F1:Fr (Att.jd s.heap) X.env.locals (h1.push {cls:=.type "list",data:=.seq vs.toArray}) m:=⟨hm.at' λ o e=>keep1 _ o e,(λ b o e=>by rw[no]at e;cases e),aQ _⟩;have N1:News (Att.jd s.heap) X.env.locals (h1.push {cls:=.type "list",data:=.seq vs.toArray}) (kU (Att.jd s.heap) s.heap X.env.locals):=λ p hp=>let ⟨a,_,c⟩:=jG hp;⟨keep1 _ _ c,a,no _⟩;have hD:(h1.push {cls:=.type "list",data:=.seq vs.toArray}).get? h1.objs.size=My (listOf vs.toArray 0):=aE _ rfl;have hneD:∀ p∈kU (Att.jd s.heap) s.heap X.env.locals,p.1≠h1.objs.size:=λ p hp=>let ⟨_,_,c⟩:=jG hp;aP (av (hk _ _ c));let kI:Nat->Int×Int:=λ i=>(((l.getD i (0,0)).1:Int),((l.getD i (0,0)).2:Int));have fin:∀ (p:List Nat) h2 c tk2,p.Perm (Ro l.length)->(p.map kI).Pairwise (λ a b=>pLt b a=Rn)->Fr (Att.jd s.heap) X.env.locals h2 m->News (Att.jd s.heap) X.env.locals h2 ((h1.objs.size,listOf (List.toArray (p.map λ i=>vs.getD i Value.none)) c)::kU (Att.jd s.heap) s.heap X.env.locals) ->
    EP X pins σ Q (.ref h1.objs.size) {s with heap:=h2,toks:=tk2}:=λ p h2 c tk2 hlp hso F2 N2=>by
   have I2:Inv X pins σ H {s with heap:=h2,toks:=tk2}:=I.qe hm F2 λ p hp=>N2 p (aw _ hp);have hn:H h1.objs.size=Rl:=by
    cases e:H h1.objs.size with
    | none=>rfl
    | some o =>obtain⟨o',ho'⟩:=vE (I.hok _ _ e);exact absurd (av (hk _ _ ho')) (aW _)
   have hlt:∀ i∈p,i<l.length:=λ i hi=>aD.mp (hlp.mem_iff.mp hi);let bo:Nat->V:=λ i=>ys.getD i .non;have hbo:∀ i,i<l.length->RelV (bo i) (vs.getD i Value.none)/\Is X.K H (bo i) (g6 (l.getD i (0,0))):=λ i hi=>by obtain⟨b,b1,b2,b3⟩:=at_j i hi;show RelV (ys.getD i .non) _/\Is X.K H (ys.getD i .non) _;rw[aF,aF,b1,b2];exact⟨rfl,.tup b3 (.cons (.int _) (.cons (.int _) .nil))⟩
   have new:jm X.prog X.w (upd H h1.objs.size (.lst (p.map bo))) h2 h1.objs.size (.lst (p.map bo)) :=
    ⟨by rw[ah,hlp.length_eq,b_,sizeLine_eq];lia,p.map λ i=>vs.getD i Value.none,c,kY p λ i hi=>(hbo i (hlt i hi)).1,(N2 _ ay).1⟩
   have I3:Inv X pins σ (upd H h1.objs.size (.lst (p.map bo))) {s with heap:=h2,toks:=tk2}:=I2.Ad hn (bA I.ok.above (eM hL)) (bR hL) (λ x c e z=>by
     obtain⟨v,o,ho,_⟩:=I.cell x c e;exact absurd (av (hk _ _ ho)) (by rw[z];exact aW _)) (λ p hp z=>by
     exact absurd (av (hk _ _ (I.pin p hp).1)) (by rw[z];exact aW _)) new
   have pm:(p.map λ i=>l.getD i (0,0)).Perm l:=by have:=hlp.map λ i=>l.getD i (0,0);rw[jJ]at this;exact this
   have so:(p.map λ i=>l.getD i (0,0)).Pairwise λ a b=>leP a b=Rm:=by rw[bp]at hso ⊢;refine hso.imp λ{i j} h=>?_;unfold leP;rw[<-FX];have h:pLt (kI j) (kI i)=Rn:=h;rw[show pLt (((l.getD j (0,0)).1:Int),((l.getD j (0,0)).2:Int)) (((l.getD i (0,0)).1:Int),((l.getD i (0,0)).2:Int))=Rn from h];rfl
   have eq:=x_ pm so;refine⟨.ref h1.objs.size,_,I3,rfl,q _ _ (gY.upd hn) (.lst gW ?_)⟩;rw[<-eq,bq];have sm:gY H (upd H h1.objs.size (.lst (p.map bo))):=gY.upd hn;exact C6 λ i hi=>(hbo i (hlt i hi)).2.ext sm
  refine ae (bK ?_);by_cases h2:2<=vs.length
  ·refine qN (X:=kI) F1 (λ p hp=>?_) hneD h2 (by lia) (λ h' F' N' i v hv=>?_) λ p h' c P So F2 N2=>af ⟨_,rfl,?_⟩
   ·rcases ax.mp hp with rfl | hp
    ·exact⟨hD,bR hL,no _⟩
    ·exact N1 p hp
   ·have hi:i<l.length:=by
     have:=(aL.mp hv).1;lia
    obtain⟨b,b1,_,b3⟩:=at_j i hi;rw[hv]at b1;cases b1;refine⟨b,rfl,?_⟩;have I2:Inv X pins σ H {s with heap:=h',toks:=s.toks}:=I.qe hm F' N';exact ID I2 b3
   ·rw[hal]at P So
    refine fin p.toList h' c _ P.2 ?_ F2 N2;rw[bp,bM];intro i j hi hj hij;have hjs:j<l.length:=by have:=P.size;simp at hj;lia
    have:=So i j (by lia) hjs;unfold KeyOrd.kle Kp at this;have gi:p.getD i 0=p.toList[i]:=by simp[Array.getD,show i<p.size by simpa using hi]
    have gj:p.getD j 0=p.toList[j]:=by simp[Array.getD,show j<p.size by simpa using hj]
    rw[gi,gj]at this;exact this
  ·refine qO hD (by lia) λ h' c kp hc'=>af ⟨_,rfl,?_⟩
   refine fin (Ro l.length) h' c _ (.refl _) ?_ ⟨F1.ns.at' λ o e=>kp _ o (aP hL) e,(λ b o e=>by rw[no]at e;cases e),aQ _⟩ λ p hp=>?_
   ·have:((Ro l.length).map kI).length<2:=by simp;lia
    match (Ro l.length).map kI,this with
    | [],_=>exact .nil
    | [a],_=>exact dH _ _
   ·rcases ax.mp hp with rfl | hp
    ·refine⟨?_,bR hL,no _⟩;rw[<-hal,jJ];exact hc'
    ·exact⟨kp _ _ (hneD p hp) (N1 p hp).1,(N1 p hp).2⟩
 ·rw[aq h64]at e3;cases e3
end
end L2
namespace Dt0
def sm:Nat->(Nat->Rat)->Rat
 | 0,_=>0
 | n+1,f=>sm n f+f n
theorem FY (a b:Rat)(f g:Nat->Rat):∀ n,sm n (λ r=>a*f r+b*g r)=a*sm n f+b*sm n g
 | 0=>by simp[sm];grind
 | n+1=>by show sm n _+_=a*(sm n f+f n)+b*(sm n g+g n);rw[FY a b f g n];grind
theorem pS {f g:Nat->Rat}:∀ {n:Nat},(∀ r,r<n->f r=g r)->sm n f=sm n g
 | 0,_=>rfl
 | n+1,h=>by show sm n f+f n=sm n g+g n;rw[pS λ r hr=>h r (by lia),h n (by lia)]
theorem za:∀ n,sm n (λ _=>0)=0
 | 0=>rfl
 | n+1=>by show sm n _+0=0;rw[za n];grind
theorem FZ {f:Nat->Rat}{i:Nat}:∀ {n:Nat},i<n->(∀ r,r<n->r≠i->f r=0)->sm n f=f i
 | 0,h,_=>by lia
 | n+1,h,hz=>by
  show sm n f+f n=f i;by_cases e:i=n
  ·subst e;have:sm i f=sm i (λ _=>0):=pS λ r hr=>hz r (by lia) (by lia);rw[this,za];grind
  ·rw[FZ (n:=n) (by lia) λ r hr ne=>hz r (by lia) ne,hz n (by lia) (by lia)];grind
section
variable (A:Nat->Nat->Rat)
variable {A}
end
end Dt0
namespace Dt0
section
variable (a:Nat->Nat->Int)
mutual
def Tz:Nat->Nat->Nat->Int
 | 0=>a
 | k+1=>λ i j=>if i=k then Tz k i j else (Tz k k k*Tz k i j-Tz k i k*Tz k k j) / fm k
def fm:Nat->Int
 | 0=>1
 | k+1=>Tz k k k
end
variable {a}
end
end Dt0
namespace L2
open PySem PySem.Spec PyProof.Rows Zp Qs
theorem BY {a b c:Nat×Nat}(h1:mj a b=Rm)(h2:mj b c=Rm):mj a c=Rm:=by rw[kO]at *;lia
theorem mF:∀ {l:gK},rise l=Rm->l.Pairwise (λ a b=>mj a b=Rm)
 | [],_=>.nil
 | [a],_=>dH _ _
 | a::b::r,h=>by
  have h':(mj a b&&rise (b::r))=Rm:=h;rw[aU]at h';have ih:=mF h'.2;refine eF.mpr ⟨λ c hc=>?_,ih⟩;rcases ax.mp hc with rfl | hc
  ·exact h'.1
  ·exact BY h'.1 ((eF.mp ih).1 c hc)
section
variable {w:Web}(g:Good w)
include g
theorem Good.nd:w.2.Nodup:=AD (mF g.rise)
theorem Good.C7 (p:Nat):(nb w.2 p).Nodup:=by
 rw[(C3 w.2 p).nodup_iff,List.nodup_append];have inj1:((w.2.filter λ t=>t.2==p).map (·.1)).Nodup:=by
  rw[aI,bp];have:=aI.mp (g.nd.filter λ t=>t.2==p);refine eu ?_ this;intro a b ha hb hab e;have h1:a.2=p:=by simpa using (bg.mp ha).2
  have h2:b.2=p:=by simpa using (bg.mp hb).2
  exact hab (gu e (h1.trans h2.symm))
 have inj2:((w.2.filter λ t=>t.1==p).map (·.2)).Nodup:=by
  rw[aI,bp];have:=aI.mp (g.nd.filter λ t=>t.1==p);refine eu ?_ this;intro a b ha hb hab e;have h1:a.1=p:=by simpa using (bg.mp ha).2
  have h2:b.1=p:=by simpa using (bg.mp hb).2
  exact hab (gu (h1.trans h2.symm) e)
 refine⟨inj1,inj2,λ x hx y hy e=>?_⟩;obtain⟨t,ht,rfl⟩:=aA.mp hx;obtain⟨u,hu,rfl⟩:=aA.mp hy;have h1:t.2=p:=by simpa using (bg.mp ht).2
 have h2:u.1=p:=by simpa using (bg.mp hu).2
 have:=g.ok t (bg.mp ht).1;have:=g.ok u (bg.mp hu).1;lia
theorem Good.nz {p j:Nat}(h:j∈nb w.2 p):j<w.1/\p<w.1/\j≠p:=by
 rcases pP.mp h with h | h
 ·have:=g.ok _ h;simp at this;lia
 ·have:=g.ok _ h;simp at this;lia
omit g in
theorem BZ {l:gK}{p j:Nat}:j∈nb l p↔p∈nb l j:=by rw[pP,pP];exact Or.comm
theorem Good.F0 (p:Nat)(hp:p<w.1):(nb w.2 p).length<=7:=by
 have h:(p::nb w.2 p).Nodup:=bu.mpr ⟨λ m=>(g.nz m).2.2 rfl,g.C7 p⟩;have:=aK h (l₂:=Ro w.1) λ x hx=>by
  rcases ax.mp hx with rfl | hx
  ·exact aD.mpr hp
  ·exact aD.mpr (g.nz hx).1
 simp at this;have:=g.nQ;lia
end
section
variable {w:Web}(g:Good w)
include g
def dg (w:Web)(j:Nat):Nat:=(nb w.2 j).length
end
structure C8 (l:gK)(s c:Nat)(fd:gK)(ic:List Nat):Prop where
 start:(s,0)∈fd
 nd:(keys fd).Nodup
 le:∀ q∈fd,q.2<=c
 ic:∀ v,v∈ic↔(v,c)∈fd
 cl:∀ q∈fd,q.2<c->∀ u∈nb l q.1,∃ d,(u,d)∈fd/\d<=q.2+1
 par:∀ q∈fd,(q.2=0/\q.1=s)\/∃ u d,(u,d)∈fd/\q.2=d+1/\q.1∈nb l u
 ord:fd.Pairwise (λ a b=>a.2<=b.2)
theorem nS:∀ {fd:gK} {v d:Nat},(keys fd).Nodup->(v,d)∈fd->look fd v=d
 | q::r,v,d,nd,h=>by
  obtain⟨k,e⟩:=q;have nd:(k::keys r).Nodup:=nd;rw[bu]at nd;by_cases hk:v=k
  ·subst hk
   rcases ax.mp h with h | h
   ·cases h;simp[look,List.lookup]
   ·exact absurd (aA.mpr ⟨_,h,rfl⟩) nd.1
  ·rcases ax.mp h with h | h
   ·cases h;exact absurd rfl hk
   ·have:=nS nd.2 h
    unfold look at this ⊢;rw[a_];have:(v==k)=Rn:=by simpa using hk
    rw[this];assumption
theorem F3 {fd:gK}{v:Nat}(nd:(keys fd).Nodup)(h:v∈keys fd):(v,look fd v)∈fd:=by obtain⟨⟨a,b⟩,hq,rfl⟩:=aA.mp h;rw[nS nd hq];exact hq
structure Mid (l:gK)(c:Nat)(fd:gK)(st:gK×List Nat)(nw:gK):Prop where
 eq:st.1=fd++nw
 by':st.2=nw.map (·.1)
 nd:(keys st.1).Nodup
 val:∀ q∈nw,q.2=c+1/\∃ u,(u,c)∈fd/\q.1∈nb l u
set_option tactic.hygienic true in
theorem Mid.one {l:gK}{c:Nat}{fd:gK}{st:gK×List Nat}{nw:gK}(h:Mid l c fd st nw){p j:Nat}(hp:(p,c)∈fd)(hj:j∈nb l p):∃ nw',Mid l c fd (i_ p st j) nw':=by
 unfold i_;split
 ·exact⟨nw,h⟩
 ·rename_i hk
  have hk:j∉keys st.1:=λ m=>hk ((mO _ _).mpr m);have e:look st.1 p=c:=nS h.nd (by rw[h.eq];exact bc _ hp);refine⟨nw++[(j,look st.1 p+1)],⟨?_,?_,?_,?_⟩⟩
  ·show st.1++_=_;rw[h.eq,cw]
  ·show st.2++[j]=_;rw[h.by',bD];rfl
  ·show(keys (st.1++_)).Nodup;rw[keys,bD];exact yE h.nd hk
  ·intro q hq
   rcases aM.mp hq with z | z
   ·exact h.val q z
   ·rw[aV.mp z,e];exact⟨rfl,p,hp,hj⟩
theorem Mid.vis {l:gK}{c:Nat}{fd:gK}{p:Nat}(hp:(p,c)∈fd):∀ (xs:List Nat) (st:gK×List Nat) (nw:gK),(∀ j∈xs,j∈nb l p)->Mid l c fd st nw->∃ nw',Mid l c fd (xs.foldl (i_ p) st) nw'
 | [],st,nw,_,h=>⟨nw,h⟩
 | x::r,st,nw,hx,h=>by obtain⟨nw',h'⟩:=h.one hp (hx x ay);exact Mid.vis hp r _ nw' (λ j hj=>hx j (aw _ hj)) h'
theorem Mid.lay {l:gK}{c:Nat}{fd:gK}:∀ (es:List Nat) (st:gK×List Nat) (nw:gK),(∀ p∈es,(p,c)∈fd)->Mid l c fd st nw->∃ nw',Mid l c fd (es.foldl (visit l) st) nw'
 | [],st,nw,_,h=>⟨nw,h⟩
 | x::r,st,nw,hx,h=>by obtain⟨nw',h'⟩:=Mid.vis (hx x ay) (nb l x) st nw (λ _ h=>h) h;exact Mid.lay r _ nw' (λ j hj=>hx j (aw _ hj)) h'
theorem C8.step {l:gK}{s c:Nat}{fd:gK}{ic:List Nat}(h:C8 l s c fd ic):C8 l s (c+1) (jM l fd ic).1 (jM l fd ic).2:=by
 obtain⟨nw,m⟩:=Mid.lay ic (fd,[]) [] (λ p hp=>(h.ic p).mp hp) ⟨by simp,rfl,h.nd,λ q hq=>by cases hq⟩;have m:Mid l c fd (jM l fd ic) nw:=m;have dn:=λ k (hk:k∈ic)=>qU (l:=l) (fd:=fd) ic (fd,[]) k (.inl hk);have dn:∀ k∈ic,Done l (jM l fd ic).1 k:=dn;have mem:∀ q,q∈(jM l fd ic).1↔q∈fd\/q∈nw:=λ q=>by rw[m.eq,aM]
 have le1:∀ q∈(jM l fd ic).1,q.2<=c+1:=λ q hq=>by
  rcases (mem q).mp hq with z | z
  ·have:=h.le q z;lia
  ·have:=(m.val q z).1;lia
 refine⟨(mem _).mpr (.inl h.start),m.nd,le1,λ v=>?_,λ q hq lt u hu=>?_,λ q hq=>?_,?_⟩
 ·rw[m.by',aA]
  constructor
  ·rintro⟨q,hq,rfl⟩;have:=(m.val q hq).1;rw[<-this];exact(mem _).mpr (.inr hq)
  ·intro hv
   rcases (mem _).mp hv with z | z
   ·have:=h.le _ z;simp at this;lia
   ·exact⟨_,z,rfl⟩
 ·rcases (mem q).mp hq with z | z
  ·by_cases hc:q.2<c
   ·obtain⟨d,hd,hle⟩:=h.cl q z hc u hu;exact⟨d,(mem _).mpr (.inl hd),hle⟩
   ·have e:q.2=c:=by have:=h.le q z;lia
    have hk:q.1∈ic:=(h.ic _).mpr (by rw[<-e];exact z);have:=dn q.1 hk u hu;obtain⟨q',hq',rfl⟩:=aA.mp this;exact⟨q'.2,hq',by rw[e];exact le1 q' hq'⟩
  ·have:=(m.val q z).1;lia
 ·rcases (mem q).mp hq with z | z
  ·rcases h.par q z with y | ⟨u,d,h1,h2,h3⟩
   ·exact .inl y
   ·exact .inr ⟨u,d,(mem _).mpr (.inl h1),h2,h3⟩
  ·obtain⟨e,u,hu,hn⟩:=m.val q z;exact .inr ⟨u,c,(mem _).mpr (.inl hu),e,hn⟩
 ·rw[m.eq,List.pairwise_append]
  refine⟨h.ord,?_,λ a ha b hb=>?_⟩
  ·rw[bM];intro i j hi hj _;have:=(m.val _ (dJ hi)).1;have:=(m.val _ (dJ hj)).1;lia
  ·have:=h.le a ha;have:=(m.val b hb).1;lia
structure Far (l:gK)(s:Nat)(fd:gK):Prop where
 start:(s,0)∈fd
 nd:(keys fd).Nodup
 cl:∀ q∈fd,∀ u∈nb l q.1,∃ d,(u,d)∈fd/\d<=q.2+1
 par:∀ q∈fd,(q.2=0/\q.1=s)\/∃ u d,(u,d)∈fd/\q.2=d+1/\q.1∈nb l u
 ord:fd.Pairwise (λ a b=>a.2<=b.2)
theorem ya {l:gK}{s:Nat}:∀ (m c:Nat) (fd:gK) (ic:List Nat),BI (univ l s) (fd,ic)->C8 l s c fd ic->(ic≠[]->2*l.length+3<=m+fd.length)->Far l s (ny l m fd ic)
 | m,c,fd,[],bi,h,_=>by
  have e:ny l m fd []=fd:=by cases m<;>rfl
  rw[e];exact⟨h.start,h.nd,λ q hq=>h.cl q hq (by
   have:=h.le q hq;rcases Nat.lt_or_ge q.2 c with z | z
   ·exact z
   ·have e:q.2=c:=by lia
    have:=(h.ic q.1).mpr (by rw[<-e];exact hq);cases this),h.par,h.ord⟩
 | 0,c,fd,e::es,bi,h,hf=>by have:=bi.le;rw[r_]at this;have h:=hf (by simp);have:fd.length<=2*l.length+1:=this;lia
 | m+1,c,fd,e::es,bi,h,hf=>by have hf:=hf (by simp);have bi':BI (univ l s) (fd,[]):=⟨bi.nd,bi.sub,by simp⟩;have lb:=vP (ic:=e::es) bi';have ll:=tO (l:=l) (fd:=fd) (ic:=e::es);exact ya m (c+1) (jM l fd (e::es)).1 (jM l fd (e::es)).2 ⟨lb.nd,lb.sub,lb.by'⟩ h.step (λ hne=>by have:0<(jM l fd (e::es)).2.length:=dD.mpr hne;lia)
theorem lD (l:gK)(s:Nat):Far l s (bfs l s):=by refine ya (2*l.length+2) 0 [(s,0)] [s] ⟨by simp,λ q hq=>by rw[aV.mp hq];exact ay,λ j hj=>by simpa using hj⟩ ?_ (λ _=>by simp);refine⟨by simp,by simp[keys],λ q hq=>by simp at hq;rw[hq];simp,λ v=>by simp,λ q hq lt=>by lia,λ q hq=>by simp at hq;rw[hq];simp,by simp⟩
theorem Far.sub {l:gK}{s:Nat}{fd:gK}(f:Far l s fd)(S:Nat->Prop)(s0:S s)(cl:∀ u v,v∈nb l u->S u->S v):∀ (d v:Nat),(v,d)∈fd->S v
 | 0,v,h=>by
  rcases f.par _ h with⟨_,e⟩ | ⟨u,d,_,e,_⟩
  ·rw[show v=s from e];exact s0
  ·simp at e
 | d+1,v,h=>by
  rcases f.par _ h with⟨e,_⟩ | ⟨u,d',h1,e,hn⟩
  ·simp at e
  ·simp at e;subst e;exact cl u v hn (Far.sub f S s0 cl d u h1)
section
variable {w:Web}(g:Good w)
include g
theorem Good.NI {v:Nat}(hv:v<w.1):v∈keys (bfs w.2 0):=by
 have f:=lD w.2 0;have sub:∀ k∈keys (bfs w.2 0),k∈Ro w.1:=λ k hk=>by obtain⟨q,hq,rfl⟩:=aA.mp hk;rw[aD];exact f.sub (λ v=>v<w.1) (by have:=g.two;lia) (λ u v h _=>(g.nz h).1) q.2 q.1 hq
 have len:(keys (bfs w.2 0)).length=w.1:=by rw[keys,ah];exact g.all
 refine aX λ hn=>?_;have:(v::keys (bfs w.2 0)).Nodup:=bu.mpr ⟨hn,f.nd⟩;have:=aK this (l₂:=Ro w.1) (λ k hk=>by
  rcases ax.mp hk with rfl | hk
  ·exact aD.mpr hv
  ·exact sub k hk)
 simp[len]at this;lia
theorem Good.conn (S:Nat->Prop)(cl:∀ u v,v∈nb w.2 u->S u->S v){u v:Nat}(hu:u<w.1)(hv:v<w.1)(h:S u):S v:=by
 have f:=lD w.2 0;have go:∀ (T:Nat->Prop),(∀ u v,v∈nb w.2 u->T u->T v)->T 0->∀ v,v<w.1->T v:=λ T c t0 v hv=>by obtain⟨q,hq,rfl⟩:=aA.mp (g.NI hv);exact f.sub T t0 c q.2 q.1 hq
 have z:S 0:=aX λ hn=>go (λ v=>¬ S v) (λ a b hb ha sb=>ha (cl b a (BZ.mp hb) sb)) hn u hu h;exact go S cl z v hv
theorem Good.inKeys {s v:Nat}(hs:s<w.1):v∈keys (bfs w.2 s)↔v<w.1:=by
 have f:=lD w.2 s;constructor
 ·intro h;obtain⟨q,hq,rfl⟩:=aA.mp h;exact f.sub (λ v=>v<w.1) hs (λ u v h _=>(g.nz h).1) q.2 q.1 hq
 ·intro hv;refine g.conn (λ v=>v∈L2.keys (bfs w.2 s)) (λ u v hv hu=>?_) hs hv (aA.mpr ⟨_,f.start,rfl⟩);obtain⟨q,hq,rfl⟩:=aA.mp hu;obtain⟨d,hd,_⟩:=f.cl q hq v hv;exact aA.mpr ⟨_,hd,rfl⟩
end
def ds (l:gK)(s v:Nat):Nat:=look (bfs l s) v
section
variable {w:Web}(g:Good w)
include g
omit g in
theorem sf (l:gK)(s:Nat):ds l s s=0:=nS (lD l s).nd (lD l s).start
theorem Good.F4 {s v:Nat}(hs:s<w.1)(hv:v<w.1):(v,ds w.2 s v)∈bfs w.2 s:=F3 (lD _ _).nd ((g.inKeys hs).mpr hv)
theorem Good.Kl {s u v:Nat}(hs:s<w.1)(h:v∈nb w.2 u):ds w.2 s v<=ds w.2 s u+1:=by obtain⟨d,hd,hle⟩:=(lD w.2 s).cl _ (g.F4 hs (g.nz h).2.1) v h;have:ds w.2 s v=d:=nS (lD _ _).nd hd;lia
theorem Good.B0 {s v:Nat}(hs:s<w.1)(hv:v<w.1)(ne:v≠s):∃ u,v∈nb w.2 u/\ds w.2 s v=ds w.2 s u+1:=by
 rcases (lD w.2 s).par _ (g.F4 hs hv) with⟨_,e⟩ | ⟨u,d,h1,h2,h3⟩
 ·exact absurd e ne
 ·refine⟨u,h3,?_⟩;rw[show ds w.2 s u=d from nS (lD _ _).nd h1];exact h2
theorem Good.C9 {s v:Nat}(hs:s<w.1)(hv:v<w.1)(h:ds w.2 s v=0):v=s :=
 aX λ ne=>by obtain⟨u,_,e⟩:=g.B0 hs hv ne;lia
end
def uF (a b:Nat):Nat×Nat:=(min a b,max a b)
section
variable {w:Web}(g:Good w)
include g
theorem Good.LM {u v:Nat}:v∈nb w.2 u↔uF u v∈w.2:=by
 rw[pP];unfold uF;constructor
 ·rintro (h | h)
  ·have:=g.ok _ h;simp at this;rw[fi (by lia),gm (by lia)];exact h
  ·have:=g.ok _ h;simp at this;rw[fA (by lia),fY (by lia)];exact h
 ·intro h
  rcases Nat.le_total u v with z | z
  ·rw[fA z,fY z]at h;exact .inr h
  ·rw[fi z,gm z]at h;exact .inl h
variable (tr:w.2.length+1=w.1)
include tr
end
def nx (l:gK)(b v:Nat):Nat:=((nb l v).filter (λ u=>decide (ds l b u<ds l b v))).headD 0
section
variable {w:Web}(g:Good w)
include g
theorem Good.F5 {b v:Nat}(hb:b<w.1)(hv:v<w.1)(ne:v≠b):nx w.2 b v∈nb w.2 v/\ds w.2 b v=ds w.2 b (nx w.2 b v)+1/\((nb w.2 v).filter (λ u=>decide (ds w.2 b u<ds w.2 b v)))≠[]:=by
 obtain⟨u,hu,e⟩:=g.B0 hb hv ne;have hm:u∈(nb w.2 v).filter (λ u=>decide (ds w.2 b u<ds w.2 b v)):=bg.mpr ⟨BZ.mp hu,by simp;lia⟩;have hne:((nb w.2 v).filter (λ u=>decide (ds w.2 b u<ds w.2 b v)))≠[]:=List.ne_nil_of_mem hm;have hh:nx w.2 b v∈(nb w.2 v).filter (λ u=>decide (ds w.2 b u<ds w.2 b v)):=by
  unfold nx;match (nb w.2 v).filter (λ u=>decide (ds w.2 b u<ds w.2 b v)),hne with
  | x::r,_=>exact ay
 obtain⟨h1,h2⟩:=bg.mp hh;have h2:ds w.2 b (nx w.2 b v)<ds w.2 b v:=by simpa using h2
 have:=g.Kl hb (BZ.mp h1);exact⟨h1,by lia,hne⟩
theorem Good.Km {b v:Nat}(hb:b<w.1)(hv:v<w.1)(ne:v≠b):nx w.2 b v<w.1:=(g.nz (g.F5 hb hv ne).1).1
variable (tr:w.2.length+1=w.1)
include tr
end
section
variable {w:Web}(g:Good w)
include g
variable (tr:w.2.length+1=w.1)
include tr
end
section
variable {w:Web}(g:Good w)(tr:w.2.length+1=w.1)
include g tr
end
section
variable {w:Web}(g:Good w)
include g
theorem Good.NJ {b:Nat}(hb:b<w.1){P:Nat->Prop}(h0:P b)(hs:∀ v,v<w.1->v≠b->P (nx w.2 b v)->P v):∀ v,v<w.1->P v:=by
 have go:∀ d v,v<w.1->ds w.2 b v=d->P v:=by
  intro d;induction d with
  | zero=>intro v hv e;rw[g.C9 hb hv e];exact h0
  | succ d ih =>
   intro v hv e;have ne:v≠b:=λ z=>by rw[z,sf]at e;lia
   obtain⟨_,e',_⟩:=g.F5 hb hv ne;exact hs v hv ne (ih _ (g.Km hb hv ne) (by lia))
 exact λ v hv=>go _ v hv rfl
variable (tr:w.2.length+1=w.1)
include tr
end
section
variable {w:Web}(g:Good w)(tr:w.2.length+1=w.1)
include g tr
end
theorem B1 {n:Nat}(f:Nat->Rat):∀ (xs:List Nat),xs.Nodup->(∀ x∈xs,x<n)->Dt0.sm n (λ j=>if j∈xs then f j else 0)=(xs.map f).sum
 | [],_,_=>by have:Dt0.sm n (λ j=>if j∈([]:List Nat) then f j else 0)=Dt0.sm n (λ _=>0):=Dt0.pS λ j _=>aq (by simp);rw[this,Dt0.za];rfl
 | x::r,nd,h=>by
  obtain⟨h1,h2⟩:=bu.mp nd;have ih:=B1 f r h2 λ y hy=>h y (aw _ hy);have one:Dt0.sm n (λ j=>if j=x then f j else 0)=f x:=by have:=Dt0.FZ (f:=λ j=>if j=x then f j else 0) (h x ay) λ j _ ne=>aq ne;rw[this,ai rfl]
  have e:Dt0.sm n (λ j=>if j∈x::r then f j else 0)=Dt0.sm n (λ j=>1*(if j=x then f j else 0)+1*(if j∈r then f j else 0)):=Dt0.pS λ j _=>by
   by_cases c:j=x
   ·subst c;rw[ai ay,ai rfl,aq h1];grind
   ·by_cases c2:j∈r
    ·rw[ai (aw _ c2),aq c,ai c2];grind
    ·rw[aq (by simp[c,c2]),aq c,aq c2];grind
  rw[e,Dt0.FY,one,ih,aS,fo];grind
section
variable {w:Web}(g:Good w){gv:Nat->gF Int}{ad:Nat->Int}
include g
end
theorem LN (f h:Nat->Rat):∀ (l:List Nat),(l.map λ x=>f x+h x).sum=(l.map f).sum+(l.map h).sum
 | []=>by show(0:Rat)=0+0;grind
 | x::r=>by rw[aS,aS,aS,fo,fo,fo,LN f h r];grind
theorem vS (c:Rat):∀ (l:List Nat),(l.map λ _=>c).sum=(l.length:Rat)*c
 | []=>by show(0:Rat)=((0:Nat):Rat)*c;grind
 | x::r=>by have:((r.length+1:Nat):Rat)=(r.length:Rat)+1:=Rat.natCast_add _ 1;rw[aS,fo,vS c r,bX,this];grind
section
variable {w:Web}(g:Good w)
include g
end
theorem DU (fd:gK)(k:Nat):uh (jK fd) (k:Int)=if nv fd k=Rm then My ((look fd k:Nat):Int) else Rl:=by
 have h:=Av (jK fd) k;rw[r8]at h;cases hk:nv fd k with
 | true =>
  rw[hk,ai rfl]at h;rw[ai rfl];cases hl:uh (jK fd) (k:Int) with
  | none=>rw[hl]at h;cases h
  | some v=>rw[hl]at h;cases h;rfl
 | false =>
  rw[hk,aq au]at h;rw[aq au];cases hl:uh (jK fd) (k:Int) with
  | none=>rfl
  | some v=>rw[hl]at h;cases h
theorem IE {fd:gK}{k:Nat}(h:nv fd k=Rm):Ip (.dct (jK fd)) (gO k)=My (gO (look fd k)):=by show(uh (jK fd) (k:Int)).map Dt.int=_;rw[DU,ai h];rfl
theorem AE (a b:Nat×Nat):dEq (g6 a) (g6 b)=(a==b):=by
 have:dEq (g6 a) (g6 b)=(((a.1:Int)==(b.1:Int))&&(((a.2:Int)==(b.2:Int))&&Rm)):=by simp[g6,gO,dEq,mi]
 rw[this,rZ,rZ,dB];rfl
theorem F6 (a b:Nat):C0 [gO a,gO b]=My (gO (min a b)):=by show My (Dt.int (if (b:Int)<(a:Int) then (b:Int) else (a:Int)))=My (.int ((min a b:Nat):Int));congr 2;split<;>lia
theorem F7 (a b:Nat):C1 [gO a,gO b]=My (gO (max a b)):=by show My (Dt.int (if (b:Int)>(a:Int) then (b:Int) else (a:Int)))=My (.int ((max a b:Nat):Int));congr 2;split<;>lia
theorem F8 {x:Dt}{l:gK}(e:dTs x=My l)(h:l.length<=30)(p:Nat):kg [x,gO p]=My (.dct (jK (bfs l p))):=by show(dTs x).bind (λ l=>(lY (gO p)).bind λ p=>if l.length<=30 then My (Dt.dct (jK (bfs l p))) else Rl)=_;rw[e,jW,aB,aB,ai h]
theorem Good.key {w:Web}(g:Good w){a b:Nat}(ha:a<w.1)(hb:b<w.1):nv (bfs w.2 a) b=Rm:=(mO _ _).mpr ((g.inKeys ha).mpr hb)
theorem F9 (k:Nat)(l:List Nat):pz (gO k) (l.map gO)=decide (k∈l):=by unfold pz;rw[bC,List.any_map];simp[gO,dEq,dw];exact⟨λ⟨x,hx,e⟩=>(show x=k by lia)▸hx,λ h=>⟨k,h,rfl⟩⟩
theorem IF (neg:Bool)(k:Nat)(l:List Nat):dIn neg (gO k) (.tup (l.map gO))=My (.bl (if neg then !decide (k∈l) else decide (k∈l))):=by show(if ((l.map gO).all λ e=>sh2 e (gO k))=Rm then My (Dt.bl (if neg then !pz (gO k) (l.map gO) else pz (gO k) (l.map gO))) else Rl)=_;rw[ai (by rw[eV,bN];intro x _;rfl),F9]
section
variable {K:gG}{w:Web}(g:Good w)
include g
omit g in
theorem B2 (p q:Nat->Bool)(hpq:∀ y,p y=Rm->q y=Rm){x:Nat}(qx:q x=Rm)(px:p x=Rn):∀ (l:List Nat),x∈l->l.countP p+1<=l.countP q:=by
 intro l;induction l with
 | nil=>intro h;cases h
 | cons y r ih =>
  intro h;have mono:r.countP p<=r.countP q:=List.countP_mono_left λ z _ hz=>hpq z hz;rw[List.countP_cons,List.countP_cons];rcases ax.mp h with rfl | h
  ·rw[qx,px];simp;lia
  ·have:=ih h
   cases hy:p y with
   | true=>rw[hpq y hy];simp;lia
   | false=>simp;lia
theorem Good.F_ {b:Nat}(hb:b<w.1):∀ v,v<w.1->ds w.2 b v<=(Ro w.1).countP λ u=>decide (ds w.2 b u<ds w.2 b v):=by refine g.NJ hb (by rw[sf];exact aQ _) λ v hv ne ih=>?_;obtain⟨n1,n2,_⟩:=g.F5 hb hv ne;have:=B2 (λ u=>decide (ds w.2 b u<ds w.2 b (nx w.2 b v))) (λ u=>decide (ds w.2 b u<ds w.2 b v)) (λ y hy=>by simp at hy ⊢;lia) (x:=nx w.2 b v) (by simp;lia) (by simp) (Ro w.1) (aD.mpr (g.Km hb hv ne));lia
theorem Good.Kn {b:Nat}(hb:b<w.1)(v:Nat)(hv:v<w.1):ds w.2 b v<=w.1:=by have h:=g.F_ hb v hv;have:=List.countP_le_length (p:=λ u=>decide (ds w.2 b u<ds w.2 b v)) (l:=Ro w.1);rw[b_]at this;lia
end
def kh:List Dt->gF Dt:=BU λ x y=>(dW x).bind λ w=>(lY y).map λ p=>.lst (((Ro w.1).filter λ o=>decide (uF p o∈w.2)).map gO)
def pT:DE->gF RD:=(kN (gLC ["_law_other"] [0,1] (nP (gN (hU dIx (gS 0) (gC (.int 0))) gR)) (ggN 0) (gB (hU (dIn Rn) (i9 (gN (iU C0 (gN (gS 2) (gN (gS 0) gR))) (gN (iU C1 (gN (gS 2) (gN (gS 0) gR))) gR))) (hU dIx (gS 1) (gC (.int 1))))) (gS 0)))
abbrev AF:List Str:=["_law_web_here","_law_place"]
theorem LO (t:Nat×Nat)(l:gK):pz (g6 t) (l.map g6)=decide (t∈l):=by unfold pz;rw[bC,List.any_map];simp only[dw,AE,fg,beq_iff_eq,decide_eq_true_eq];exact⟨λ⟨x,hx,e⟩=>by rw[<-e];exact hx,λ h=>⟨t,h,rfl⟩⟩
theorem NK (neg:Bool)(t:Nat×Nat)(l:gK):dIn neg (g6 t) (iJ l)=My (.bl (if neg then !decide (t∈l) else decide (t∈l))):=by show(if ((l.map g6).all λ e=>sh2 e (g6 t))=Rm then My (Dt.bl (if neg then !pz (g6 t) (l.map g6) else pz (g6 t) (l.map g6))) else Rl)=_;rw[ai (by rw[eV,bN];intro x _;rfl),LO]
theorem zb:Hg 2 AF kh pT:=by
 intro ds d hl h;obtain⟨x,y,rfl,h⟩:=nN h;obtain⟨w,e4,h⟩:=gQ h;obtain⟨p,e2,h⟩:=ir h;subst h;obtain⟨rfl,hg⟩:=vN e4;rw[lC e2];have h8:=hg.nQ;have hr:Ah [gO w.1]=My ((Ro w.1).map gO):=AA (n:=w.1) (by lia);have ix:dIx (iP w) (.int 0)=My (gO w.1):=rfl;have ix1:dIx (iP w) (.int 1)=My (iJ w.2):=rfl;refine⟨.rt (.lst (((Ro w.1).filter λ o=>decide (uF p o∈w.2)).map gO)),?_,rfl⟩;have lc:=la (enc:=gO) (gg:=ggN 0) (gt:=gB (hU (dIn Rn) (i9 (gN (iU C0 (gN (gS 2) (gN (gS 0) gR))) (gN (iU C1 (gN (gS 2) (gN (gS 0) gR))) gR))) (hU dIx (gS 1) (gC (.int 1))))) (ge:=gS 0) (δc:=[Rl,My (iP w),My (gO p)]) (δa:=λ o=>[My (gO o),My (iP w),My (gO p)]) (p:=λ o=>decide (uF p o∈w.2)) (enc':=gO) (Ro w.1) λ o ho=>⟨rfl,by have mn:=F6 p o;have mx:=F7 p o;have inn:=NK Rn (uF p o) w.2;have e:Dt.tup [gO (min p o),gO (max p o)]=g6 (uF p o):=rfl;generalize g6 (uF p o)=ep,gO (max p o)=n2,gO (min p o)=n1,gO o=no,gO p=np,iP w=ww,iJ w.2=tt at *;simp[mn,mx,ix1,e,inn],λ _=>rfl⟩
 have hn:((Ro w.1).map gO).length<=1000:=by simp;lia
 generalize iP w=ww,(Ro w.1).map gO=rs,((Ro w.1).filter λ o=>decide (uF p o∈w.2)).map gO=res at *;simp only[gO]at ix hr lc;simp[pT,gO,ix,hr,lc,hn]
section
variable {w:Web}(g:Good w)
include g
end
abbrev cV (k:Nat):V:=.int k
theorem stE {K:gG}{H:Hp}:Sat K H [] []:=⟨rfl,λ _ _ h=>by cases h⟩
theorem stN {K:gG}{H:Hp}{x:gF V}{σ:L2.St}{δ:DE}(h:Sat K H σ δ):Sat K H (x::σ) (Rl::δ):=⟨cK (·+1) h.len,λ j d hj=>by
 cases j with
 | zero=>cases hj
 | succ j=>exact h.at_ j d hj⟩
theorem stS {K:gG}{H:Hp}{v:V}{d:Dt}{σ:L2.St}{δ:DE}(i:Is K H v d)(h:Sat K H σ δ):Sat K H (My v::σ) (My d::δ):=⟨cK (·+1) h.len,λ j d hj=>by
 cases j with
 | zero=>cases hj;exact⟨_,rfl,i⟩
 | succ j=>exact h.at_ j d hj⟩
section
variable {K:gG}{w:Web}(g:Good w)
include g
end
theorem C_ {n j:Nat}(h:j<n):ixN n (j:Int)=My j:=by unfold ixN;rw[ai (by lia),ai (by lia)];simp
section
variable {K:gG}{w:Web}{kvs:List (Int×Int)}{as:List Int}{v0 v2 v3 v5:V}{H0 H:Hp}{p:Addr}{f:Nat->Int}{pl:Nat}{D:Ends}
end
open Dt0 (Tz fm)
theorem Good.Ga {w:Web}(g:Good w)(i:Nat):dg w i<=7:=by
 unfold dg;cases h:nb w.2 i with
 | nil=>exact aQ _
 | cons x r =>have:=g.nz (p:=i) (j:=x) (by rw[h];exact ay);rw[<-h];exact g.F0 i this.2.1
section
variable {w:Web}(g:Good w){gv:Nat->gF Int}{ad:Nat->Int}
include g
end
def LP:gK:=(Ro 8).flatMap λ a=>((Ro 8).filter λ b=>decide (a<b)).map λ b=>(a,b)
theorem pairs_len {l:gK}{n:Nat}(nd:l.Nodup)(ok:∀ p∈l,p.1<p.2/\p.2<n)(h8:n<=8):l.length<=28:=by
 have:=aK nd (l₂:=LP) λ p hp=>by have:=ok p hp;unfold LP;rw[List.mem_flatMap];exact⟨p.1,aD.mpr (by lia),aA.mpr ⟨p.2,bg.mpr ⟨aD.mpr (by lia),by simp;lia⟩,rfl⟩⟩
 have e:LP.length=28:=by decide
 lia
theorem LQ {a b:Nat×Nat}(h:leP a b=Rm)(ne:a≠b):mj a b=Rm:=by
 rw[qj]at h;rw[kO];rcases h with h | ⟨h1,h2⟩
 ·exact .inl h
 ·refine .inr ⟨h1,?_⟩;have:a.2≠b.2:=λ e=>ne (gu h1 e);lia
theorem DV {a b:Nat×Nat}(h:mj a b=Rm):leP a b=Rm:=by rw[kO]at h;rw[qj];lia
def NL (l:gK)(n:Nat):Prop:=∀ S:Nat->Prop,S 0->(∀ p∈l,S p.1↔S p.2)->∀ v,v<n->S v
theorem Gb {l:gK}{n:Nat}(ok:∀ p∈l,p.1<p.2/\p.2<n)(h0:0<n):(bfs l 0).length=n↔NL l n:=by
 refine⟨λ h S s0 cl v hv=>?_,yZ ok h0⟩;have f:=lD l 0;have nbS:∀ (T:Nat->Prop),(∀ p∈l,T p.1↔T p.2)->∀ u v,v∈nb l u->T u->T v:=λ T ct u v h t=>by
  rcases pP.mp h with z | z
  ·exact(ct _ z).mpr t
  ·exact(ct _ z).mp t
 have sub:∀ k∈keys (bfs l 0),k∈Ro n:=λ k hk=>by obtain⟨q,hq,rfl⟩:=aA.mp hk;rw[aD];exact f.sub (λ v=>v<n) h0 (nbS _ λ p hp=>by have:=ok p hp;constructor<;>(intro _;lia)) q.2 q.1 hq
 have len:(keys (bfs l 0)).length=n:=by rw[keys,ah];exact h
 have hk:v∈keys (bfs l 0):=aX λ hn=>by
  have:(v::keys (bfs l 0)).Nodup:=bu.mpr ⟨hn,f.nd⟩;have:=aK this (l₂:=Ro n) (λ k hk=>by
   rcases ax.mp hk with rfl | hk
   ·exact aD.mpr hv
   ·exact sub k hk)
  simp[len]at this;lia
 obtain⟨q,hq,rfl⟩:=aA.mp hk;exact f.sub S s0 (nbS S cl) q.2 q.1 hq
section
variable {w:Web}(g:Good w)
include g
end
end L2
namespace L2
open PySem PySem.Spec PyProof.Rows
def Gd (h:Heap)(p:Addr->Bool):Heap:={h with objs:=h.objs.mapIdx λ i o=>if p i then {o with data:=.freed} else o}
theorem vT (h:Heap)(p:Addr->Bool)(b:Addr):(Gd h p).get? b=if p b then Rl else h.get? b:=by
 unfold Heap.get? Gd;simp only[Array.getElem?_mapIdx];cases e:h.objs[b]? with
 | none=>simp
 | some o =>
  by_cases c:p b=Rm
  ·simp[c]
  ·simp[c]
theorem lS {h base base':Heap}:∀ {l:List Env},h.FunFrames base l->(∀ b∈frs l,base'.get? b=Rl)->h.FunFrames base' l
 | [],_,_=>trivial
 | env::r,hl,hb=>by obtain⟨hk,⟨L,o,hf,hn,ho,hd⟩,hr⟩:=hl;exact⟨hk,⟨L,o,hf,hb L (by unfold frs;rw[bE,hf];exact ay),ho,hd⟩,lS hr λ b m=>hb b (by unfold frs;rw[bE,hf];exact aw _ m)⟩
theorem frames_at {h base:Heap}:∀ {l:List Env},h.FunFrames base l->∀ b∈frs l,∃ o,h.get? b=My o/\∀ vs,o.data≠.fields vs:=λ hl b hb=>(hl.mem hb).2
structure Fly (Old:Addr->Prop)(H:Hp)(h:Heap)(a:Addr)(cls a0:gH):Prop where
 ex:∃ (oe:Obj) (vs:Array gH) (T:Addr) (oT:Obj) (ts:Array gH),h.get? a=My oe/\oe.cls=cls/\vs[0]?=My a0/\oe.data=.fields vs/\vs[1]?=My (.ref T)/\T≠a/\h.get? T=My oT/\oT.data=.fields ts/\ts[3]?=My .none/\H a=Rl/\H T=Rl/\∀ b,Old b->b≠a/\b≠T
structure yb (fs:List Addr)(mine:Addr->Prop)(h h':Heap):Prop where
 keep:∀ b o,h.get? b=My o->b∉fs->¬ mine b->h'.get? b=My o
 slot:∀ b o,h.get? b=My o->b∈fs->∃ sl,h'.get? b=My {o with slots:=sl}
section
variable {M:Model}{A:Around}{E:gE}{s:gJ}{base:Heap}{env:Env}{outer:List Env}{L e:Addr}{Q:Unit->gJ->Prop}
set_option tactic.hygienic true in
theorem AG (hA:A.frames=My (env::outer))(hF:s.heap.FunFrames base (env::outer))(hf:env.frame=My L){oe:Obj}{vs:Array gH}{a0:gH}(he:s.heap.get? e=My oe)(hd:oe.data=.fields vs)(h0:vs[0]?=My a0)(h1:vs[1]?=My .none){H:Hp}{Old:Addr->Prop}(hH:H e=Rl)
  (hT:∀ b,s.heap.get? b=Rl->H b=Rl/\¬ Old b) (ho:¬ Old e) (q:∀ h',yb (frs (env::outer)) (λ b=>b=e) s.heap h'->Fly Old H h' e oe.cls a0->Q () {s with heap:=h'}):wpAny M A (leaving env (.ref e)) Q E s:=by
 have fr:=frames_at hF;have nef:e∉frs (env::outer):=λ z=>by obtain⟨o,ho,hn⟩:=fr e z;rw[he]at ho;cases ho;exact hn vs hd
 let B:=Gd s.heap λ b=>decide (b∈frs (env::outer)\/b=e);have hB:∀ b,B.get? b=if b∈frs (env::outer)\/b=e then Rl else s.heap.get? b:=λ b=>by rw[vT];by_cases c:b∈frs (env::outer)\/b=e<;>simp[c]
 have stays:B.StaysIn s.heap:=λ b o h=>by
  rw[hB]at h;split at h
  ·cases h
  ·exact h
 have hF':s.heap.FunFrames B (env::outer):=lS hF λ b hb=>by rw[hB,ai (.inl hb)]
 have size:1<vs.size:=by have:=(cq.mp h1).1;exact this
 unfold leaving noteFrame;rw[hf];dsimp only;refine ae (ae (bU he hd h1 ?_));rw[aq (by decide)];refine wpAny_newEntryW hA hF' hf he stays (by rw[hB,ai (.inr rfl)]) hd size h0 λ h' left=>?_;obtain⟨st,fr2,tr,sl⟩:=left;refine q h' ⟨λ b o hb nf nm=>st b o (by rw[hB,aq (λ z=>z.elim nf nm)];exact hb),λ b o hb hf=>?_⟩ ?_
 ·obtain⟨o2,ho2,hn⟩:=fr b hf;rw[hb]at ho2;cases ho2;exact sl b o hb hn
 ·obtain⟨oe',vs',T,oT,ts,he',⟨hc,hv0⟩,hd',hv1,hBT,hne,hT',hdT,hts⟩:=tr
  have nT:s.heap.get? T=Rl:=by
   rw[hB]at hBT;split at hBT
   ·rename_i z
    rcases z with z | z
    ·obtain⟨o,ho,hn⟩:=frames_at fr2 T z;rw[hT']at ho;cases ho;exact absurd hdT (hn ts)
    ·exact absurd z hne
   ·exact hBT
  obtain⟨HT,oT'⟩:=hT T nT;exact⟨oe',vs',T,oT,ts,he',hc,hv0,hd',hv1,hne,hT',hdT,hts,hH,HT,λ b hb=>⟨λ z=>ho (z▸hb),λ z=>oT' (z▸hb)⟩⟩
set_option tactic.hygienic true in
theorem Dc (hA:A.frames=My (env::outer))(hF:s.heap.FunFrames base (env::outer))(hf:env.frame=My L){H:Hp}{Old:Addr->Prop}{cls a0:gH}(fl:Fly Old H s.heap e cls a0)
  (hT:∀ b,s.heap.get? b=Rl->H b=Rl/\¬ Old b) (q:∀ h' (T:Addr),H T=Rl->¬ Old T->yb (frs (env::outer)) (λ b=>b=e\/b=T) s.heap h'->Fly Old H h' e cls a0->Q () {s with heap:=h'}) :
  wpAny M A (noteFrame (.ref e) env) (λ _ s'=>wpAny M A (setFlight (.ref e) Rl) Q E s') E s:=by
 obtain⟨oe,vs,T,oT,ts,he,hc,h0,hd,h1,hne,hT0,hdT,hts,hH,HT,old⟩:=fl.ex;have fr:=frames_at hF;have nef:∀ {b o us},s.heap.get? b=My o->o.data=.fields us->b∉frs (env::outer):=λ{b o us} hb hu z=>by obtain⟨o2,ho,hn⟩:=fr b z;rw[hb]at ho;cases ho;exact hn us hu
 let B:=Gd s.heap λ b=>decide (b∈frs (env::outer)\/b=e\/b=T);have hB:∀ b,B.get? b=if b∈frs (env::outer)\/b=e\/b=T then Rl else s.heap.get? b:=λ b=>by rw[vT];by_cases c:b∈frs (env::outer)\/b=e\/b=T<;>simp[c]
 have stays:B.StaysIn s.heap:=λ b o h=>by
  rw[hB]at h;split at h
  ·cases h
  ·exact h
 have hF':s.heap.FunFrames B (env::outer):=lS hF λ b hb=>by rw[hB,ai (.inl hb)]
 have Be:B.get? e=Rl:=by rw[hB,ai (.inr (.inl rfl))]
 have BT:B.get? T=Rl:=by rw[hB,ai (.inr (.inr rfl))]
 refine wpAny_noteFrame_onW hA hF' hf ⟨oe,vs,T,oT,ts,he,⟨hc,h0⟩,hd,h1,BT,hne,hT0,hdT,hts⟩ stays Be λ h1' nt=>?_;obtain⟨st1,fr1,tr1,sl1⟩:=nt;refine wpAny_landsW (base:=B) (l:=env::outer) (cls:=cls) (a0:=a0) (L:=L) ⟨st1,Be,fr1,tr1⟩ λ h2 fl2 up=>?_;obtain⟨st2,_,fr2,tr2⟩:=fl2;refine q h2 T HT (λ z=>(old T z).2 rfl) ⟨λ b o hb nf nm=>st2 b o (by rw[hB,aq (λ z=>z.elim nf nm)];exact hb),λ b o hb hf=>?_⟩ ?_
 ·obtain⟨o2,ho2,hn⟩:=fr b hf;rw[hb]at ho2;cases ho2;obtain⟨sl,e1⟩:=sl1 b o hb hn;obtain⟨sl',e2⟩:=up b _ e1 hn;exact⟨sl',e2⟩
 ·obtain⟨oe',vs',T',oT',ts',he',⟨hc',hv0⟩,hd',hv1,hBT,hne',hT',hdT',hts'⟩:=tr2
  have nT:H T'=Rl/\¬ Old T':=by
   rw[hB]at hBT;split at hBT
   ·rename_i z
    rcases z with z | z | z
    ·obtain⟨o,ho,hn⟩:=frames_at fr2 T' z;rw[hT']at ho;cases ho;exact absurd hdT' (hn ts')
    ·exact absurd z hne'
    ·rw[z];exact⟨HT,λ z=>(old T z).2 rfl⟩
   ·exact hT T' hBT
  exact⟨oe',vs',T',oT',ts',he',hc',hv0,hd',hv1,hne',hT',hdT',hts',hH,nT.1,λ b hb=>⟨(old b hb).1,λ z=>nT.2 (z▸hb)⟩⟩
end
section
variable {P:Program}{w:World}{H H':Hp}{h h' h0:Heap}{a:Addr}
theorem jm.there {o:HO}(x:jm P w H h a o):∃ u,h.get? a=My u:=by
 cases o with
 | lst xs=>obtain⟨_,_,_,_,e⟩:=x;exact⟨_,e⟩
 | tup xs=>obtain⟨⟨_,o,e,_⟩,_⟩:=x;exact⟨_,e⟩
 | dK kvs=>obtain⟨_,_,_,_,o,_,_,e,_⟩:=x;exact⟨_,e⟩
 | dT kvs=>obtain⟨_,_,_,_,o,_,_,e,_⟩:=x;exact⟨_,e⟩
 | set S n=>obtain⟨o,_,_,_,e,_⟩:=x;exact⟨_,e⟩
 | ins C dx fs=>obtain⟨_,_,_,e,_⟩:=x;exact⟨_,e⟩
 | own y=>exact x
 | xd fs=>obtain⟨_,⟨_,_,_,e,_⟩,_⟩:=x;exact⟨_,e⟩
 | rng lo hi=>obtain⟨_,_,_,e⟩:=x;exact⟨_,e⟩
 | frz ob u=>obtain⟨e,_⟩:=x;exact⟨_,e⟩
 | tbl ps=>exact⟨_,x⟩
 | met f y=>exact⟨_,x⟩
 | ext φ=>obtain⟨_,e,_⟩:=x;exact e
theorem HOk.new (x:HOk P w H h)(e:h.get? a=Rl):H a=Rl:=by
 cases q:H a with
 | none=>rfl
 | some u=>obtain⟨o,z⟩:=(x a u q).there;rw[e]at z;cases z
theorem HOk.sg {fs:List Addr}{mine:Addr->Prop}(x:HOk P w H h)(n:yb fs mine h h')(hf:∀ b∈fs,H b=Rl)(hm:∀ b,mine b->H b=Rl):HOk P w H h':=λ b u e =>
 (x b u e).u4 (λ c v hc q=>n.keep c v q (λ z=>by
   rcases hc with rfl | hc
   ·rw[hf _ z]at e;cases e
   ·rw[hf _ z]at hc;cases hc) λ z=>by
   rcases hc with rfl | hc
   ·rw[hm _ z]at e;cases e
   ·rw[hm _ z]at hc;cases hc) (λ _ q=>q) λ _ _ q=>q
theorem Un.sg {fs:List Addr}{L:Addr}{mine:Addr->Prop}(u:Un fs [] H H' h0 h)(n:yb (L::fs) mine h h')(hL:h0.get? L=Rl)(hm:∀ b,h0.get? b≠Rl->¬ mine b):Un fs [] H H' h0 h':=by
 have ne:∀ {b o},h0.get? b=My o->b≠L:=λ{b o} e z=>by rw[z,hL]at e;cases e
 have nm:∀ {b o},h0.get? b=My o->¬ mine b:=λ{b o} e=>hm b (by rw[e];simp);refine⟨λ b o e hn hb hx=>n.keep b o (u.keep b o e hn hb hx) (λ z=>(ax.mp z).elim (ne e) hb) (nm e),λ b o e hn hb hx=>?_,u.free,λ b o e hx=>?_,u.o_,u.pf,u.sU⟩
 ·obtain⟨sl,e1⟩:=u.slot b o e hn hb hx;obtain⟨sl',e2⟩:=n.slot b _ e1 (aw _ hb);exact⟨sl',e2⟩
 ·obtain⟨o',e1⟩:=u.there b o e hx
  by_cases c:b∈L::fs
  ·obtain⟨sl,e2⟩:=n.slot b o' e1 c;exact⟨_,e2⟩
  ·exact⟨o',n.keep b o' e1 c (nm e)⟩
end
def CXE (P:Program)(w:World):CXT:=λ outer H s E e s'=>∃ a cls a0 H',e=.ref a/\s'.os=s.os/\AllBare s'.gens/\Un (frs outer) [] H H' s.heap s'.heap/\HOk P w H' s'.heap/\Fly (λ b=>s.heap.get? b≠Rl) H' s'.heap a cls a0/\E cls (My a) H'
section
variable {P:Program}{w:World}{K:gG}{mg:gD}{base:Heap}{N:List Str}{qual:Str}{scope:Scope}{f:Addr}{cd:gH}{A:Around}{outer:List Env}{s s1:gJ}{H H1:Hp}{E:XK}{pins:gL}{σ:St}
abbrev cxE (P:Program)(w:World)(K:gG)(mg:gD)(base:Heap)(N:List Str)(qual:Str)(scope:Scope)(f:Addr)(cd:gH)(A:Around)(outer:List Env)(s:gJ)(H:Hp)(E:XK):Cx:=pj (CXE P w) P w K mg base N qual scope f cd A outer s H E
theorem LR (I:Inv (cxE P w K mg base N qual scope f cd A outer s H E) pins σ H1 s1){h2:Heap}{e:Addr}{cls:gH}{vs:List gH}(m:s1.heap.MadeExcOf h2 e cls vs)(q:E cls (My e) H1)(t:Nat) :
  (cxE P w K mg base N qual scope f cd A outer s H E).xe (.ref e) {s1 with heap:=h2,toks:=t}:=by
 have J:=I.kept (t':=t) m.keeps;obtain⟨tt,he,ht,_⟩:=m.there;have hH:H1 e=Rl:=I.hok.new m.new;have old:∀ b,s1.heap.get? b=Rl->s.heap.get? b=Rl:=λ b hb=>by
  cases q:s.heap.get? b with
  | none=>rfl
  | some o =>obtain⟨o',z⟩:=I.base.there b o q (by show b∉[];simp);rw[hb]at z;cases z
 refine AG (L:=s.heap.objs.size) J.ok.frames J.stack rfl he rfl rfl rfl (H:=H1) (Old:=λ b=>s.heap.get? b≠Rl) hH (λ b hb=>?_) (λ z=>z (old e m.new)) λ h' n fl=>?_
 ·refine⟨J.hok.new hb,λ z=>z ?_⟩
  cases q:s.heap.get? b with
  | none=>rfl
  | some o =>obtain⟨o',z⟩:=J.base.there b o q (by show b∉[];simp);have z:h2.get? b=My o':=z;have hb:h2.get? b=Rl:=hb;rw[hb]at z;cases z
 ·exact⟨e,cls,_,H1,rfl,J.os,J.bare,J.base.sg n (cA (ar _)) λ b hb z=>by rw[z]at hb;exact hb (old e m.new),J.hok.sg n J.rh (λ b z=>by rw[z];exact hH),fl,q⟩
theorem NM {E':XK}(hE:∀ c a H',E' c a H'->E c a H'):Passes (CXE P w) (cxE P w K mg base N qual scope f cd A outer s H E) E':=by
 rintro pins σ H1 s1 e s2 I ⟨a,cls,a0,H2,rfl,os,bare,un,hok,fl,q⟩;obtain⟨hh,g,d,t,os'⟩:=s2;obtain rfl:os'=s1.os:=os;have J:=I.call (h':=hh) (g':=g) (d':=d) (t':=t) (ch:=[]) un hok bare (λ b z=>absurd z (by simp));have old:∀ b,s.heap.get? b≠Rl->s1.heap.get? b≠Rl:=λ b hb z=>by
  cases q:s.heap.get? b with
  | none=>exact hb q
  | some o =>obtain⟨o',e⟩:=I.base.there b o q (by show b∉[];simp);rw[z]at e;cases e
 have fl':Fly (λ b=>s.heap.get? b≠Rl) H2 hh a cls a0:=by obtain⟨oe,vs,T,oT,ts,h1,h2,h3,h4,h5,h6,h7,h8,h9,h10,h11,h12⟩:=fl.ex;exact⟨oe,vs,T,oT,ts,h1,h2,h3,h4,h5,h6,h7,h8,h9,h10,h11,λ b hb=>h12 b (old b hb)⟩
 refine ae (Dc (L:=s.heap.objs.size) J.ok.frames J.stack rfl fl' (λ b hb=>?_) λ h' T HT oT n fl2=>?_)
 ·refine⟨J.hok.new hb,λ z=>z ?_⟩
  cases q:s.heap.get? b with
  | none=>rfl
  | some o =>obtain⟨o',z⟩:=J.base.there b o q (by show b∉[];simp);have z:hh.get? b=My o':=z;have hb:hh.get? b=Rl:=hb;rw[hb]at z;cases z
 ·obtain⟨oe,vs,T0,oT0,ts,h1,h2,h3,h4,h5,h6,h7,h8,h9,h10,h11,h12⟩:=fl'.ex;exact⟨a,cls,a0,H2,rfl,J.os,J.bare,J.base.sg n (cA (ar _)) λ b hb z=>by
   rcases z with z | z
   ·exact(h12 b hb).1 z
   ·exact oT (z▸hb),J.hok.sg n J.rh (λ b z=>by
   rcases z with z | z
   ·rw[z];exact h10
   ·rw[z];exact HT),fl2,hE _ _ _ q⟩
end
abbrev xl:List gH:=[.type "ValueError",.type "Exception",.type "BaseException",.type "object"]
structure ClT (K:gG)(mg:gD)(x:Str)(dn:List gH) where
 C:Addr
 n:PySem.W.nsIn K mainGlobals x=My (My (.ref C))
 m:mg x=My (.ref C)
 ex:PySem.W.excIn K C xl "ValueError.__new__"=Rm
 mro:(PySem.W.clsIn K C).map (·.mro)=My (.ref C::(dn++xl))
theorem LU {K:gG}{mg:gD}{base:Heap}(M:Mod K mg base):∃ p loose mb,PySem.W.TopRead p loose mg mb base:=by
 obtain⟨mb,hb,hm⟩:=M.blt;obtain⟨o,es,ep,e1,e2,sk,e3⟩:=id M.glob;refine⟨(default:Program),es.toList.filterMap (λ e=>match e.key with | .str s _=>My s | _=>Rl),mb,M.glob,hb,M.nolimit,hm,λ x _ hl _ _ _=>?_⟩;rw[<-e3 x];show(es.find? λ e=>e.key.isStr x).map (·.val)=Rl;cases q:es.find? λ e=>e.key.isStr x with
 | none=>rfl
 | some d =>
  exfalso;have h1:=Array.find?_some q;have h2:=Array.mem_of_find?_eq_some q;refine hl (cU.mpr ⟨d,by simpa using h2,?_⟩);cases hk:d.key with
  | str s t =>
   rw[hk]at h1;have:s=x:=by simpa [Value.isStr] using h1
   rw[this]
  | _=>rw[hk]at h1;cases h1
theorem IG {K:gG}{mg:gD}{base:Heap}(M:Mod K mg base){x:Str}{dn:List gH}(c:ClT K mg x dn):OwnCls x c.C xl "ValueError.__new__" mg base:=by obtain⟨p,loose,mb,T⟩:=LU M;exact PySem.W.own_of_in M.kin T c.n c.ex
def LV (t:TA)(C:Addr)(E:XK):TS:=λ D σ H=>t σ H λ vs H1=>vs.length<=sizeLine/\∀ e,H1 e=Rl->E (.ref C) (My e) H1
section
variable {P:Program}{w:World}{K:gG}{mg:gD}{base:Heap}{N:List Str}{qual:Str}{scope:Scope}{f:Addr}{cd:gH}{A:Around}{outer:List Env}{s:gJ}{H:Hp}{E:XK}{x:Str}{np cpos pos:Pos}{e0:Expr}{dn:List gH}{t:TA}
theorem Ge (c:ClT K mg x dn)(hd:(cxE P w K mg base N qual scope f cd A outer s H E).A.handled=Rl)(ha:PA (cxE P w K mg base N qual scope f cd A outer s H E) [e0] t)(hg:Gl (cxE P w K mg base N qual scope f cd A outer s H E) x:=by rfl)(hdb:(x==("__debug__":Str))=Rn:=by decide)
  (he:starEach [e0] (cxE P w K mg base N qual scope f cd A outer s H E).env=[(Rn,eval e0 (cxE P w K mg base N qual scope f cd A outer s H E).env)]:=by rfl) :
  PS (cxE P w K mg base N qual scope f cd A outer s H E) (.Raise (My (.Call (.Name x np) [e0] [] cpos)) Rl pos) (LV t c.C E):=by
 intro pins s1 σ H1 D I h;obtain⟨bm,N0,nm,q,bs,hdct,sn,sub,ab,col,dd,k0,k1,k2,k3,k5,mN,e1,e2,e3,e4⟩:=(IG I.mod c).obj;have he2:backTo cpos (starEach [e0] (cxE P w K mg base N qual scope f cd A outer s H E).env)=[(Rn,eval e0 (cxE P w K mg base N qual scope f cd A outer s H E).env)]:=by rw[he];rfl
 refine wpAny_Raise_call_subU (nm:=nm) (q:=q) (C:=c.C) (N:=N0) (bs:=bs) (hdct:=hdct) (sn:=sn) (sub:=sub) (ab:=ab) (col:=col) (dd:=dd) (k0:=k0) (k1:=k1) (k2:=k2) (k3:=k3) (k5:=k5) F.excBase_ValueError (by decide) F.excBase_ValueError (e4.hasType (by decide)) hd (by rw[he2];rfl) e3 (rm I hg c.m ⟨rfl,?_⟩ hdb);rw[he2];refine Calls.evalArgs_plain ?_;have:=ha cpos pins s1 σ H1 _ I h;rw[he2]at this;refine thn this λ us s2 ⟨vs,H2,I2,r2,hz,q2⟩=>⟨rfl,by rw[<-r2.length];exact hz,I2.bk _ _ e1,?_,e4.keeps I2.bk,λ h' e made=>?_⟩
 ·obtain⟨o,es,ep,z1,z2⟩:=e2;exact⟨o,es,ep,I2.bk _ _ z1,z2⟩
 ·exact LR I2 made (q2 e (I2.hok.new made.new)) _
end
section
variable {X Y:Cx}{pins:gL}{σ:St}{H:Hp}{s:gJ}
structure Alike (X Y:Cx):Prop where
 prog:Y.prog=X.prog
 w:Y.w=X.w
 K:Y.K=X.K
 mg:Y.mg=X.mg
 base:Y.base=X.base
 N:Y.N=X.N
 s0:Y.s₀=X.s₀
 H0:Y.H₀=X.H₀
 env:Y.env=X.env
 outer:Y.outer=X.outer
 stack:Y.stack=X.stack
 ex:Y.ex=X.ex
 fn:Y.fn=X.fn
 fr:Y.A.frames=X.A.frames
theorem Inv.alike {pins':gL}(a:Alike X Y)(I:Inv X pins σ H s)(hd:Y.calm=Rm->Y.A.handled=Rl)(hp:∀ p∈Y.pn++pins',p∈X.pn++pins):Inv Y pins' σ H s:=by obtain⟨prog,w,K,mg,base,A,N,s0,H0,env,outer,stack,ex,fn,calm,pn,xe⟩:=X;obtain⟨prog',w',K',mg',base',A',N',s0',H0',env',outer',stack',ex',fn',calm',pn',xe'⟩:=Y;obtain⟨a1,a2,a3,a4,a5,a6,a7,a8,a9,a10,a11,a12,a13,a14⟩:=a;dsimp only at a1 a2 a3 a4 a5 a6 a7 a8 a9 a10 a11 a12 a13 a14;subst a1 a2 a3 a4 a5 a6 a7 a8 a9 a10 a11 a12 a13;obtain⟨ok,os,bare,bs,loc,cell,free,lW,pin,hok,len⟩:=I;exact⟨⟨ok.mod,ok.kind,ok.glob,ok.blt,ok.above,ok.inj,ok.has,ok.cab,hd,a14.trans ok.frames,ok.stk,ok.exf,ok.bs,ok.bsz,ok.Bd,ok.Ex,ok.sV,ok.frf⟩,os,bare,bs,loc,cell,free,lW,λ p h=>pin p (hp p h),hok,len⟩
def DW (X:Cx)(pn:gL)(b:Addr):Prop:=X.s₀.heap.get? b≠Rl\/(∃ p∈pn,p.1=b)\/b=X.env.locals\/∃ x,X.env.cells.lookup x=My b
def Cx.pnC (X:Cx)(pn:gL):Cx:={X with pn:=pn}
def Cx.AH (X:Cx)(E':XK)(pn:gL):Cx:={X with pn:=pn,xe:=λ e s'=>∃ σ H a cls a0,e=.ref a/\Inv (X.pnC pn) [] σ H s'/\Fly (DW X pn) H s'.heap a cls a0/\E' cls (My a) H}
def Cx.hdC (X:Cx)(a:Addr)(pn:gL):Cx:={X with A:=X.A.mark (My (.ref a)),calm:=Rn,pn:=pn,xe:=λ _ _=>False}
theorem DX {E':XK}{pn:gL}:Alike X (X.AH E' pn):=⟨rfl,rfl,rfl,rfl,rfl,rfl,rfl,rfl,rfl,rfl,rfl,rfl,rfl,rfl⟩
theorem qk {E':XK}{pn:gL}:Alike (X.AH E' pn) X:=⟨rfl,rfl,rfl,rfl,rfl,rfl,rfl,rfl,rfl,rfl,rfl,rfl,rfl,rfl⟩
theorem Gf {E':XK}{pn:gL}:Alike (X.AH E' pn) (X.pnC pn):=⟨rfl,rfl,rfl,rfl,rfl,rfl,rfl,rfl,rfl,rfl,rfl,rfl,rfl,rfl⟩
theorem AI {a:Addr}{pn:gL}:Alike (X.pnC pn) (X.hdC a pn):=⟨rfl,rfl,rfl,rfl,rfl,rfl,rfl,rfl,rfl,rfl,rfl,rfl,rfl,rfl⟩
theorem Gg {a:Addr}{pn:gL}:Alike (X.hdC a pn) X:=⟨rfl,rfl,rfl,rfl,rfl,rfl,rfl,rfl,rfl,rfl,rfl,rfl,rfl,rfl⟩
theorem Inv.old {pn:gL}(I:Inv (X.pnC pn) pins σ H s)(hx:X.ex=[]){b:Addr}(h:DW X pn b):s.heap.get? b≠Rl:=by
 rcases h with h | ⟨p,hp,rfl⟩ | rfl | ⟨x,hc⟩
 ·intro z
  cases q:X.s₀.heap.get? b with
  | none=>exact h q
  | some o =>obtain⟨o',e⟩:=I.base.there b o q (by show b∉X.ex;rw[hx];simp);rw[z]at e;cases e
 ·have:=(I.pin p (bc _ hp)).1;rw[this];simp
 ·obtain⟨m,⟨o,es,ep,ho,_⟩,_⟩:=I.loc;have ho:s.heap.get? X.env.locals=My o:=ho;rw[ho];simp
 ·obtain⟨v,o,ho,_⟩:=I.cell x b hc;rw[ho];simp
theorem LW {P:Program}{w:World}{E':XK}{pn:gL}(hP:X.prog=P)(hw:X.w=w)(hx:X.ex=[]):Passes (CXE P w) (X.AH E' pn) E':=by subst hP hw;rintro pins σ H1 s1 e s2 I ⟨a,cls,a0,H2,rfl,os,bare,un,hok,fl,q⟩;obtain⟨hh,g,d,t,os'⟩:=s2;obtain rfl:os'=s1.os:=os;have J:=I.call (h':=hh) (g':=g) (d':=d) (t':=t) (ch:=[]) un hok bare (λ b z=>absurd z (by simp));have I0:Inv (X.pnC pn) [] σ H1 s1:=I.alike Gf I.ok.hd λ p hp=>bc _ (show p∈pn by have:p∈pn++[]:=hp;simpa using this);refine⟨σ,H2,a,cls,a0,rfl,J.alike Gf J.ok.hd λ p hp=>bc _ (show p∈pn by have:p∈pn++[]:=hp;simpa using this),?_,q⟩;obtain⟨oe,vs,T,oT,ts,h1,h2,h3,h4,h5,h6,h7,h8,h9,h10,h11,h12⟩:=fl.ex;exact⟨oe,vs,T,oT,ts,h1,h2,h3,h4,h5,h6,h7,h8,h9,h10,h11,λ b hb=>h12 b (I0.old hx hb)⟩
end
section
variable {X:Cx}{pins:gL}{σ:St}{H:Hp}{s:gJ}{h':Heap}
theorem Inv.sg {mine:Addr->Prop}(J:Inv X pins σ H s)(n:yb (frs X.stack) mine s.heap h')(hm:∀ b,mine b->H b=Rl/\X.s₀.heap.get? b=Rl/\b≠X.env.locals/\(∀ x c,X.env.cells.lookup x=My c->c≠b)/\∀ p∈X.pn++pins,p.1≠b):Inv X pins σ H {s with heap:=h'}:=by
 have any:∀ b o,s.heap.get? b=My o->¬ mine b->∃ sl,h'.get? b=My {o with slots:=sl}:=λ b o e nm=>by
  by_cases c:b∈frs X.stack
  ·exact n.slot b o e c
  ·exact⟨o.slots,n.keep b o e c nm⟩
 have ent:∀ {b o},X.s₀.heap.get? b=My o->¬ mine b:=λ{b o} e z=>by rw[(hm b z).2.1]at e;cases e
 have entL:∀ {b o},X.s₀.heap.get? b=My o->b≠X.env.locals:=λ{b o} e=>aP (aH (av e) J.ok.above);have cellK:∀ x c,X.env.cells.lookup x=My c->∀ v,s.heap.IsCell c v->h'.IsCell c v:=λ x c e v ⟨o,ho,hd⟩=>by obtain⟨sl,z⟩:=any c o ho λ z=>(hm c z).2.2.2.1 x c e rfl;exact⟨_,z,hd⟩
 have nsub:∀ {b},b≠X.env.locals->b∉X.fs->b∉frs X.stack:=λ{b} h1 h2 z=>(ax.mp (J.u6 b z)).elim h1 h2;refine⟨J.ok,J.os,J.bare,⟨λ b o e hn hb hx=>n.keep b o (J.base.keep b o e hn hb hx) (nsub (entL e) hb) (ent e),λ b o e hn hb hx=>?_,J.base.free,λ b o e hx=>?_,J.base.o_,J.base.pf,J.base.sU⟩,?_,λ x c e=>?_,J.free,J.lW,λ p hp=>?_,J.hok.sg n J.rh λ b z=>(hm b z).1,J.len⟩
 ·obtain⟨sl,e1⟩:=J.base.slot b o e hn hb hx;obtain⟨sl',e2⟩:=any b _ e1 (ent e);exact⟨sl',e2⟩
 ·obtain⟨o',e1⟩:=J.base.there b o e hx;obtain⟨sl,e2⟩:=any b o' e1 (ent e);exact⟨_,e2⟩
 ·obtain⟨m,⟨o,es,ep,ho,hd,hr⟩,hl⟩:=J.loc
  obtain⟨sl,z⟩:=any _ o ho λ z=>(hm _ z).2.2.1 rfl;refine⟨m,⟨_,es,ep,z,hd,hr⟩,λ i x v e1 e2 e3=>?_⟩;obtain⟨u,r,l⟩:=hl i x v e1 e2 e3;refine⟨u,r,?_⟩;rcases l with l | ⟨k,c,e,z⟩
  ·exact .inl l
  ·exact .inr ⟨k,c,e,cellK x c e _ z⟩
 ·obtain⟨v,z⟩:=J.cell x c e;exact⟨v,cellK x c e v z⟩
 ·obtain⟨e,hn,ne,nf,d⟩:=J.pin p hp;exact⟨n.keep p.1 p.2 e (nsub ne nf) λ z=>(hm _ z).2.2.2.2 p hp rfl,hn,ne,nf,d⟩
theorem Inv.LX {D:Addr}{o:HO}(I:Inv X pins σ H s)(hn:H D=Rl)(hs:X.s₀.heap.get? D=Rl)(hL:D≠X.env.locals)(hc:∀ x c,X.env.cells.lookup x=My c->c≠D)(hp:∀ p∈X.pn++pins,p.1≠D)
  (new:jm X.prog X.w (upd H D o) s.heap D o):Inv X pins σ (upd H D o) s:=by
 have ne:∀ b u,H b=My u->b≠D:=λ b u e z=>by rw[z,hn]at e;cases e
 refine⟨I.ok,I.os,I.bare,⟨I.base.keep,I.base.slot,λ b ob e n hx=>?_,I.base.there,λ b xs e=>?_,λ b ob u e=>?_,λ b ps e=>?_⟩,I.loc,I.cell,?_,λ x c e=>?_,λ p hp'=>?_,λ b u e=>?_,I.len⟩
 ·have:b≠D:=λ z=>by rw[z,hs]at e;cases e
  rw[g9 this];exact I.base.free b ob e n hx
 ·have q:=I.base.o_ b xs e;rw[g9 (ne _ _ q)];exact q
 ·have q:=I.base.pf b ob u e;rw[g9 (ne _ _ q)];exact q
 ·obtain⟨more,q⟩:=I.base.sU b ps e;exact⟨more,by rw[g9 (ne _ _ q)];exact q⟩
 ·rw[g9 hL.symm];exact I.free
 ·rw[g9 (hc x c e)];exact I.lW x c e
 ·obtain⟨a1,a2,a3⟩:=I.pin p hp';exact⟨a1,by rw[g9 (hp p hp')];exact a2,a3⟩
 ·by_cases c:b=D
  ·subst c;rw[gW]at e;cases e;exact new
  ·rw[g9 c]at e;exact(I.hok b u e).u4 (λ _ _ _ q=>q) (λ c' q=>by rw[g9 (ne _ _ q)];exact q) λ c' xs q=>by rw[g9 (ne _ _ q)];exact q
def isC (a:Addr)(cls:gH):Heap->Prop:=λ h=>∃ oe,h.get? a=My oe/\oe.cls=cls
theorem LY {P:Program}{w:World}{h:Heap}{a:Addr}{cls:gH}(e:isC a cls h):jm P w H h a (.ext (isC a cls)):=by obtain⟨oe,e1,e2⟩:=e;exact⟨⟨oe,e1,e2⟩,⟨oe,e1⟩,λ h1 h2 ⟨o,z1,z2⟩ k=>⟨o,k o z1,z2⟩⟩
end
section
variable {M:Model}{A:Around}{E:gE}{s:gJ}{base:Heap}{l:List Env}{e:Addr}{Q:Unit->gJ->Prop}
set_option tactic.hygienic true in
theorem DY (hF:s.heap.FunFrames base l){H:Hp}{Old:Addr->Prop}{cls a0:gH}(fl:Fly Old H s.heap e cls a0)
  (hT:∀ b,s.heap.get? b=Rl->H b=Rl/\¬ Old b) (q:∀ h' (T:Addr),H T=Rl->¬ Old T->yb (frs l) (λ b=>b=e\/b=T) s.heap h'->Fly Old H h' e cls a0->Q () {s with heap:=h'}):wpAny M A (setFlight (.ref e) Rl) Q E s:=by
 obtain⟨oe,vs,T,oT,ts,he,hc,h0,hd,h1,hne,hT0,hdT,hts,hH,HT,old⟩:=fl.ex;have fr:=frames_at hF;let B:=Gd s.heap λ b=>decide (b∈frs l\/b=e\/b=T);have hB:∀ b,B.get? b=if b∈frs l\/b=e\/b=T then Rl else s.heap.get? b:=λ b=>by rw[vT];by_cases c:b∈frs l\/b=e\/b=T<;>simp[c]
 have stays:B.StaysIn s.heap:=λ b o h=>by
  rw[hB]at h;split at h
  ·cases h
  ·exact h
 have hF':s.heap.FunFrames B l:=lS hF λ b hb=>by rw[hB,ai (.inl hb)]
 have Be:B.get? e=Rl:=by rw[hB,ai (.inr (.inl rfl))]
 have BT:B.get? T=Rl:=by rw[hB,ai (.inr (.inr rfl))]
 refine lands_againW (base:=B) (l:=l) (cls:=cls) (a0:=a0) ⟨stays,Be,hF',oe,vs,T,oT,ts,he,⟨hc,h0⟩,hd,h1,BT,hne,hT0,hdT,hts⟩ λ h2 fl2 up=>?_;obtain⟨st2,_,fr2,tr2⟩:=fl2;refine q h2 T HT (λ z=>(old T z).2 rfl) ⟨λ b o hb nf nm=>st2 b o (by rw[hB,aq (λ z=>z.elim nf nm)];exact hb),λ b o hb hf=>?_⟩ ?_
 ·obtain⟨o2,ho2,hn⟩:=fr b hf;rw[hb]at ho2;cases ho2;exact up b o hb hn
 ·obtain⟨oe',vs',T',oT',ts',he',⟨hc',hv0⟩,hd',hv1,hBT,hne',hT',hdT',hts'⟩:=tr2
  have nT:H T'=Rl/\¬ Old T':=by
   rw[hB]at hBT;split at hBT
   ·rename_i z
    rcases z with z | z | z
    ·obtain⟨o,ho,hn⟩:=frames_at fr2 T' z;rw[hT']at ho;cases ho;exact absurd hdT' (hn ts')
    ·exact absurd z hne'
    ·rw[z];exact⟨HT,λ z=>(old T z).2 rfl⟩
   ·exact hT T' hBT
  exact⟨oe',vs',T',oT',ts',he',hc',hv0,hd',hv1,hne',hT',hdT',hts',hH,nT.1,λ b hb=>⟨(old b hb).1,λ z=>nT.2 (z▸hb)⟩⟩
end
structure WT (K:gG)(mg:gD)(x:Str) extends ClT K mg x [] where
 w1:PySem.W.instIn K (.ref C) (.type "tuple")=My Rn
 w2:PySem.W.subIn K (.ref C) (.type "BaseException")=My Rm
section
variable {M:Model}{A:Around}{E:gE}{s:gJ}{K:gG}{mg:gD}
set_option tactic.hygienic true in
theorem DZ {x:Str}(KX:K.In s.heap)(W:WT K mg x){a C:Addr}(ht:isC a (.ref C) s.heap)(sb:PySem.W.subIn K (.ref C) (.ref W.C)=My Rm){Q:Bool->gJ->Prop}(q:Q Rm s):wpAny M A (excMatches (.ref a) (.ref W.C)) Q E s:=by
 have keep:∀ b o,s.heap.get? b=My o->s.heap.get? b=My o:=λ _ _ h=>h;obtain⟨oe,e1,e2⟩:=ht;unfold excMatches;refine ae (PySem.W.looks_instIn KX W.w1 A _ E s keep ?_);rw[aq au];dsimp only;refine ae (af ?_);obtain⟨cd,hcd⟩:∃ cd,PySem.W.clsIn K W.C=My cd:=by
  have:=W.mro;cases q:PySem.W.clsIn K W.C with
  | none=>rw[q]at this;cases this
  | some cd=>exact⟨cd,rfl⟩
 obtain⟨oc,hoc,hdc⟩:∃ oc,s.heap.get? W.C=My oc/\oc.data=.cls cd:=by
  unfold PySem.W.clsIn at hcd;split at hcd
  ·rename_i o1 o2 o3 o4 o5 hl;cases hcd;exact⟨_,KX _ _ hl,rfl⟩
  ·cases hcd
 rw[dR];refine ae (ae (ae ?_));unfold isExcClass;refine ae (ks_wpAny_isType_cls hoc hdc ?_);rw[ai rfl];refine PySem.W.looks_subIn KX W.w2 A _ E s keep ?_;rw[aq (by decide)];refine af ?_;dsimp only;rw[eU];refine af ?_;refine ae (wpAny_typeOf_ref e1 ?_);rw[e2,dR];refine ae (ae (ae (PySem.W.looks_subIn KX sb A _ E s keep ?_)));rw[ai rfl];refine af ?_;dsimp only;exact af (af q)
end
section
variable {X:Cx}{pins:gL}{σ:St}{H:Hp}{s:gJ}
theorem D0 {M:Model}{A:Around}{E:gE}{i:Nat}{x:Str}{pos:Pos}(I:Inv X pins σ H s)(hN:X.N.Nodup)(hi:X.N[i]?=My x)(hk:X.env.scope.names.lookup x=My .local){Q:Unit->gJ->Prop}
  (q:∀ s',Inv X pins (σ.set i Rl) H s'->Q () s'):wpAny M A (do bindName X.env x .none;unbindBehindTheSuite X.env x pos) Q E s:=by
 have hiσ:i<σ.length:=by rw[I.len];exact(aL.mp hi).1
 have hcls:(X.env.scope.kind==.class || (X.env.scope.kind==.module&&X.env.locals != X.env.globals))=Rn:=by rw[I.ok.kind];rfl
 refine ae (wpAny_bindName (rl I hN hi (.inl hk) (v:=.non) (u:=.none) rfl (λ s1 I1=>?_) (.inr hk)));unfold unbindBehindTheSuite;refine fk ?_;obtain⟨m,hn,hl⟩:=id I1.loc;have hm:∃ u,m x=My u:=by
  obtain⟨u,_,l⟩:=hl i x .non hi (by rw[cv hiσ]) (.inl hk);rcases l with⟨_,e⟩ | ⟨k,_⟩
  ·exact⟨u,e⟩
  ·have k:X.env.scope.names.lookup x=My .cell\/X.env.scope.names.lookup x=My .free:=k;rw[hk]at k;rcases k with k | k<;>cases k
 obtain⟨u0,hm⟩:=hm;refine wpAny_unbindName_local hk hn hm hcls λ h' u hn' hs=>q _ ?_;obtain⟨oL,_,_,hoL,_⟩:=id hn;have entL:∀ {b o},X.s₀.heap.get? b=My o->b≠X.env.locals:=λ{b o} e=>aP (aH (av e) I1.ok.above);refine⟨I1.ok,I1.os,I1.bare,⟨λ b o e n hb hx=>?_,λ b o e n hb hx=>?_,I1.base.free,λ b o e hx=>?_,I1.base.o_,I1.base.pf,I1.base.sU⟩,⟨_,hn',λ j y v' e1 e2 e3=>?_⟩,λ y c e=>?_,I1.free,I1.lW,λ p hp=>?_,λ b ob e=>?_,by have:=I1.len;simpa using this⟩
 ·exact(hs.2 b (entL e)).trans (I1.base.keep b o e n hb hx)
 ·obtain⟨sl,e1⟩:=I1.base.slot b o e n hb hx;exact⟨sl,(hs.2 b (entL e)).trans e1⟩
 ·obtain⟨o',e1⟩:=I1.base.there b o e hx;exact⟨o',(hs.2 b (entL e)).trans e1⟩
 ·by_cases hj:j=i
  ·subst hj;rw[cv hiσ]at e2;cases e2
  ·rw[cb (bj hj)]at e2
   obtain⟨u',r',l⟩:=hl j y v' e1 (by rw[cb (bj hj)];exact e2) e3;refine⟨u',r',?_⟩;rcases l with⟨k,e⟩ | ⟨k,c,e,z⟩
   ·refine .inl ⟨k,?_⟩;have:y≠x:=λ e=>hj (u9 hN e1 (e▸hi));simp[this,e]
   ·exact .inr ⟨k,c,e,z.sameBut hs (I1.cne y c e)⟩
 ·obtain⟨w',z⟩:=I1.cell y c e;exact⟨w',z.sameBut hs (I1.cne y c e)⟩
 ·obtain⟨e,n,ne,nf,d⟩:=I1.pin p hp;exact⟨(hs.2 p.1 ne).trans e,n,ne,nf,d⟩
 ·refine(I1.hok b ob e).u4 (λ c w' hc q=>(hs.2 c ?_).trans q) (λ _ q=>q) λ _ _ q=>q
  rintro rfl;rcases hc with rfl | hc
  ·rw[I1.free]at e;cases e
  ·rw[I1.free]at hc;cases hc
def P_ (n i:Nat)(K:gG)(Wc:Addr)(tb:XK->TS)(th:TS):TS:=λ D σ H=>∃ E':XK,tb E' D σ H/\∀ cls a H',E' cls (My a) H'->H' a=Rl ->
 (∃ C,cls=.ref C/\PySem.W.subIn K (.ref C) (.ref Wc)=My Rm)/\∀ σ1:St,σ1.length=n->th {nx:=λ _ _=>False,rt:=D.rt} (σ1.set i (My (.ref a))) (upd H' a (.ext (isC a cls)))
theorem LZ {wn n:Str}{i:Nat}{body suite:List Stmt}{b₀:Stmt}{wp hp pos:Pos}{tb:XK->TS}{th:TS}(W:WT X.K X.mg wn)(hb:∀ E' pn,PSs (X.AH E' pn) body (tb E'))(hh:∀ a pn,PSs (X.hdC a pn) (b₀::suite) th)(hst:X.stack=X.env::X.outer:=by rfl)(hfr:X.env.frame=My X.env.locals:=by rfl)(hx:X.ex=[]:=by rfl)(hN:X.N.Nodup:=by trivial)(hi:X.N[i]?=My n:=by rfl)
  (hk:X.env.scope.names.lookup n=My .local:=by rfl) (hg:Gl X wn:=by rfl) (hdb:(wn==("__debug__":Str))=Rn:=by decide) :
  PS X (.Try body [.ExceptHandler (My (.Name wn wp)) (My n) (b₀::suite) hp] [] [] pos) (P_ X.N.length i X.K W.C tb th):=by
 rintro pins s σ H D I ⟨E',h1,h2⟩;have up:∀ p∈X.pn++pins,p∈(X.pn++pins)++[]:=λ p hp=>by simpa using hp
 have dn:∀ p∈(X.pn++pins)++[],p∈X.pn++pins:=λ p hp=>by simpa using hp
 refine wpAny_Try_except (cW (hb E' (X.pn++pins) [] s σ H D (I.alike DX I.ok.hd dn) h1) (λ f s1 h=>?_) λ e s1 h=>?_)
 ·cases f with
  | next =>obtain⟨σ',H',J,q⟩:=h;exact lQ pins s1 σ' H' D (J.alike qk I.ok.hd up) q
  | brk=>obtain⟨σ',H',J,q⟩:=h;exact⟨σ',H',J.alike qk I.ok.hd up,q⟩
  | cont=>obtain⟨σ',H',J,q⟩:=h;exact⟨σ',H',J.alike qk I.ok.hd up,q⟩
  | ret u=>obtain⟨v,σ',H',J,r,q⟩:=h;exact⟨v,σ',H',J.alike qk I.ok.hd up,r,q⟩
 ·obtain⟨σ1,H1,a,cls,a0,rfl,J,fl,q⟩:=h
  have newJ:∀ {s2:gJ} {σ2:St},Inv (X.pnC (X.pn++pins)) [] σ2 H1 s2->∀ b,s2.heap.get? b=Rl->H1 b=Rl/\¬ DW X (X.pn++pins) b:=λ{s2 σ2} J2 b hb=>⟨J2.hok.new hb,λ z=>J2.old hx z hb⟩;have mineOk:∀ b,¬ DW X (X.pn++pins) b->H1 b=Rl->H1 b=Rl/\(X.pnC (X.pn++pins)).s₀.heap.get? b=Rl/\b≠(X.pnC (X.pn++pins)).env.locals/\(∀ x c,(X.pnC (X.pn++pins)).env.cells.lookup x=My c->c≠b)/\∀ p∈(X.pnC (X.pn++pins)).pn++[],p.1≠b:=λ b nb hb =>⟨hb,aX λ z=>nb (.inl z),λ z=>nb (.inr (.inr (.inl z))),λ x c hc z=>nb (.inr (.inr (.inr ⟨x,z▸hc⟩))),λ p hp z=>nb (.inr (.inl ⟨p,dn p hp,z⟩))⟩
  have aOk:∀ {h:Heap},Fly (DW X (X.pn++pins)) H1 h a cls a0->H1 a=Rl/\¬ DW X (X.pn++pins) a/\isC a cls h:=λ{h} fl=>by obtain⟨oe,vs,T,oT,ts,k1,k2,k3,k4,k5,k6,k7,k8,k9,k10,k11,k12⟩:=fl.ex;exact⟨k10,λ z=>(k12 a z).1 rfl,oe,k1,k2⟩
  have frs1:(X.pnC (X.pn++pins)).stack=X.env::X.outer:=hst;have hA:X.A.frames=My (X.env::X.outer):=by have:=I.ok.frames;rw[hst]at this;exact this
  have hF:s1.heap.FunFrames X.base (X.env::X.outer):=by have:=J.stack;rw[frs1]at this;exact this
  refine Dc (L:=X.env.locals) hA hF hfr fl (newJ J) λ h3 T HT oT nt fl3=>?_;obtain⟨Ha,oa,_⟩:=aOk fl;have J3:Inv (X.pnC (X.pn++pins)) [] σ1 H1 {s1 with heap:=h3}:=J.sg (by rw[frs1];exact nt) λ b z=>by
   rcases z with z | z
   ·rw[z];exact mineOk a oa Ha
   ·rw[z];exact mineOk T oT HT
  obtain⟨_,_,ic3⟩:=aOk fl3;obtain⟨⟨C,rfl,sb⟩,h2⟩:=h2 cls a H1 q Ha;have K3:Inv (X.hdC a (X.pn++pins)) [] σ1 H1 {s1 with heap:=h3}:=J3.alike AI (λ z=>by cases z) λ p hp=>hp;refine wpAny_handleBy_cons (codeAny_handlers_test ?_) (by unfold byPass;intro z;cases z);refine rm (X:=X.hdC a (X.pn++pins)) K3 hg W.m (DZ K3.kIn W ic3 sb ?_) hdb;dsimp only;rw[ai rfl];dsimp only;refine codeAny_handlers_suite_as ?_;refine DY (l:=X.env::X.outer) (base:=X.base) (by have:=J3.stack;rw[frs1]at this;exact this) fl3 (newJ J3) λ h4 T4 HT4 oT4 nt4 fl4=>?_;have J4:Inv (X.pnC (X.pn++pins)) [] σ1 H1 {s1 with heap:=h4}:=J3.sg (s:={s1 with heap:=h3}) (by rw[frs1];exact nt4) λ b z=>by
   rcases z with z | z
   ·rw[z];exact mineOk a oa Ha
   ·rw[z];exact mineOk T4 oT4 HT4
  obtain⟨_,_,ic4⟩:=aOk fl4;obtain⟨_,m2,m3,m4,m5⟩:=mineOk a oa Ha;have J5:Inv (X.pnC (X.pn++pins)) [] σ1 (upd H1 a (.ext (isC a (.ref C)))) {s1 with heap:=h4}:=J4.LX Ha m2 m3 m4 m5 (LY ic4);have K5:Inv (X.hdC a (X.pn++pins)) [] σ1 (upd H1 a (.ext (isC a (.ref C)))) {s1 with heap:=h4}:=J5.alike AI (λ z=>by cases z) λ p hp=>hp;refine rl (X:=X.hdC a (X.pn++pins)) K5 hN hi (.inl hk) (v:=.ref a) rfl (λ s6 K6=>?_) (.inr hk);refine cW (hh a (X.pn++pins) [] s6 _ _ _ K6 (h2 σ1 J.len)) (λ f s7 h=>?_) λ e s7 h=>False.elim h;cases f with
  | next=>obtain⟨_,_,_,z⟩:=h;exact False.elim z
  | brk=>obtain⟨_,_,_,z⟩:=h;exact False.elim z
  | cont=>obtain⟨_,_,_,z⟩:=h;exact False.elim z
  | ret u =>obtain⟨v,σ7,H7,K7,r,z⟩:=h;have J7:Inv X pins σ7 H7 s7:=K7.alike Gg I.ok.hd up;exact D0 J7 hN hi hk λ s8 J8=>⟨v,_,H7,J8,r,z⟩
end
structure si (k:Nat)(A:Around):Prop where
 dp:A.depth+3*k+5<recursionLimit
 un:A.units+16*k+200<cLine
theorem si.deeper {k:Nat}{A:Around}(r:si (k+1) A)(env:Env):si k (A.deeper env) :=
 ⟨by have:=r.dp;show A.depth+1+3*k+5<_;lia,by have:=r.un;show A.units+3+16*k+200<_;lia⟩
theorem jt.toN {j k:Nat}{A:Around}(r:jt k A)(h:j<=k)(v:gF gH):si j (A.mark v):=⟨by have:=r.dp;show A.depth+3*j+5<_;lia,by have:=r.un;show A.units+16*j+200<_;lia⟩
theorem si.units {k:Nat}{A:Around}(r:si k A):A.units+2<cLine:=by have:=r.un;lia
structure Gh (P:Program)(w:World)(K:gG)(mg:gD)(base:Heap)(k:Nat)(f:Addr)(fd:FuncData)(ps:List Str)(sp:Sp):Prop where
 len:∀ vs H Q E,sp vs H Q E->vs.length=ps.length
 run:∀ (A:Around) (outer:List Env) (s:gJ) (H:Hp) (args:Args) (us:List gH) (vs:List V) (Q:VK) (E:XK),si k A->Dv P w K mg base A outer s H->BindsTo s fd args (ps.zip us)->Vals vs us->sp vs H Q E ->
  codeAny (model P w) A (.call (.ref f) args) (CR CX0 outer P w H s Q E) s
def Cx.L4 (X:Cx):Cx:={X with calm:=Rn}
section
variable {P:Program}{w:World}{K:gG}{mg:gD}{base:Heap}{x qual:Str}{st:Stmt}{f:Addr}{fd:FuncData}{N ps:List Str}{k:Nat}{sp:Sp}
theorem Fun.okN (F:Fun K x qual st f fd)(S:iI N ps (gZ st))(len:∀ vs H Q E,sp vs H Q E->vs.length=ps.length)
  (hbody:∀ (cdv:gH) (A:Around) (outer:List Env) (s:gJ) (H:Hp) (vs:List V) (Q:VK) (E:XK),si k (A.deeper (envOfC qual (gZ st) s.heap.objs.size f cdv))->sp vs H Q E ->
   ∃ t,PSs (pj CX0 P w K mg base N qual (gZ st) f cdv A outer s H E).L4 (iL st) t/\t {nx:=λ _ H'=>Q .non H',rt:=Q} (start N vs) H):Gh P w K mg base (k+1) f fd ps sp:=by
 obtain⟨oc,od,kV,doc,pm,an,cdv,ct,osl,rfl,lk,hcd⟩:=F.ex;refine⟨len,λ A outer s H args us vs Q E hr e0 hb r hsp=>?_⟩;have hl:=len _ _ _ _ hsp;have KX:K.In s.heap:=e0.mod.kin.keeps λ b o e=>(e0.bs b o e).1;have lim:s.heap.NoLimit:=e0.mod.nolimit.keeps λ b o e=>(e0.bs b o e).1;have hkind:∀ y∈ps.zip us,(gZ st).names.lookup y.1=My .local\/((gZ st).names.lookup y.1=My .cell/\((cellsFrom (s.heap.objs.size+1) (gZ st).names []).lookup y.1).isSome=Rm):=λ⟨n,v⟩ hy=>by
  rcases S.par n (fy hy).1 with q | q
  ·exact .inl q
  ·exact .inr ⟨q,eP _ _ _ (.inl q)⟩
 refine codeAny_call_function (by have:=hr.dp;lia) (KX _ _ lk) rfl S.co S.gen rfl (PySem.W.codeRec_of KX hcd) (hb _ _ _ _ ?_);refine wpAny_newFunctionEnv_cells S.kind hkind λ env he s1 x=>?_;subst he;refine⟨lim.keeps x.toInCall.keep,codeAny_func ?_⟩;obtain⟨t,ht,hq⟩:=hbody cdv A outer s H vs Q E (hr.deeper _) hsp;have e1:Dv P w K mg base {A with handled:=Rl} outer s H:=⟨e0.frames,e0.mod,e0.bs,e0.bsz,e0.sV,e0.frf,e0.hok,e0.bare⟩;have I0:Inv (pj CX0 P w K mg base N qual (gZ st) f cdv {A with handled:=Rl} outer s H E) [] (start N vs) H s1:=xH S rfl e1 hl r x;have I:Inv (pj CX0 P w K mg base N qual (gZ st) f cdv A outer s H E).L4 [] (start N vs) H s1:=Inv.alike (X:=pj CX0 P w K mg base N qual (gZ st) f cdv {A with handled:=Rl} outer s H E) ⟨rfl,rfl,rfl,rfl,rfl,rfl,rfl,rfl,rfl,rfl,rfl,rfl,rfl,rfl⟩ I0 (λ z=>by cases z) λ p hp=>hp;refine cW (ht [] s1 (start N vs) H _ I hq) (λ fl s' hs=>?_) λ e s' hs=>hs;have fin:∀ {σ':St} {H':Hp} {v:V} {u:gH},Inv (pj CX0 P w K mg base N qual (gZ st) f cdv A outer s H E).L4 [] σ' H' s'->RelV v u->Q v H'->CE outer P w H s Q u s' :=
  λ{σ' H' v u} J rv q=>⟨v,H',J.os,J.bare,J.base,J.hok,rv,q⟩
 cases fl with
 | ret u =>obtain⟨v,σ',H',J,rv,q⟩:=hs;exact fin J rv q
 | next =>obtain⟨σ',H',J,q⟩:=hs;exact fin (v:=V.non) (u:=Value.none) J rfl q
 | brk =>obtain⟨_,_,_,q⟩:=hs;exact False.elim q
 | cont =>obtain⟨_,_,_,q⟩:=hs;exact False.elim q
theorem Fun.okE (F:Fun K x qual st f fd)(S:iI N ps (gZ st))(len:∀ vs H Q E,sp vs H Q E->vs.length=ps.length)
  (hbody:∀ (cdv:gH) (A:Around) (outer:List Env) (s:gJ) (H:Hp) (vs:List V) (Q:VK) (E:XK),jt k (A.deeper (envOfC qual (gZ st) s.heap.objs.size f cdv))->sp vs H Q E ->
   ∃ t,PSs (cxE P w K mg base N qual (gZ st) f cdv A outer s H E) (iL st) t/\t {nx:=λ _ H'=>Q .non H',rt:=Q} (start N vs) H):pE P w K mg base (CXE P w) (k+1) f fd ps sp:=by
 obtain⟨oc,od,kV,doc,pm,an,cdv,ct,osl,rfl,lk,hcd⟩:=F.ex;exact JX lk hcd S len λ A outer s H vs Q E hr hsp=>hbody cdv A outer s H vs Q E hr hsp
end
section
variable {X:Cx}{e:Expr}{es:List Expr}{pos p:Pos}{x:Str}{st:Stmt}{j k n:Nat}{ps:List Str}
theorem pCN {sp:Sp}{t:TA}(T:FnT X.K X.mg x st ps)(F:Gh X.prog X.w X.K X.mg X.base k T.f T.fd ps sp)(hr:si k X.A)(ha:PA X (e::es) t)(hg:Gl X x:=by rfl)(hdb:(x==("__debug__":Str))=Rn:=by decide)(he:starEach (e::es) X.env=(Rn,eval e X.env)::starEach es X.env:=by rfl)(hpl:(backTo pos (starEach es X.env)).any (·.1)=Rn:=by rfl) :
  PE X (.Call (.Name x p) (e::es) [] pos) (jo sp [] E0 t):=by
 intro pins s σ H Q I h;refine eD (rm I hg T.m ?_ hdb);refine PySem.W.callWith_K (h₀:=X.base) I.ok.mod.kin T.F.kp (thn (ha pos pins s σ H _ I h) λ us s1 ⟨vs,H1,I1,r,q⟩=>⟨I1.kIn,?_⟩) he hpl;have q:sp vs H1 Q E0:=by have q:sp (vs++[]) H1 Q E0:=q;rwa [bt]at q
 have hl:(us++[]).length=ps.length:=by rw[bt,<-r.length];exact F.len _ _ _ _ q
 refine f6 (codeAny_mono (F.run X.A X.stack s1 H1 ⟨us,[]⟩ us vs Q E0 hr I1.Nc (by have:=T.b s1 us I1.kIn hl;rwa [bt]at this) r q) λ r s' hq=>?_);cases r with
 | error e=>exact False.elim hq
 | ok fl =>
  cases fl with
  | ret u=>exact I1.after hq
  | next=>exact False.elim hq
  | brk=>exact False.elim hq
  | cont=>exact False.elim hq
theorem pCE {P:Program}{w:World}{K:gG}{mg:gD}{base:Heap}{N:List Str}{qual:Str}{scope:Scope}{f:Addr}{cd:gH}{A:Around}{outer:List Env}{s:gJ}{H:Hp}{E:XK}{sp:Sp}{t:TA}(T:FnT K mg x st ps)(F:pE P w K mg base (CXE P w) k T.f T.fd ps sp)(hr:jt j (cxE P w K mg base N qual scope f cd A outer s H E).A)(ha:PA (cxE P w K mg base N qual scope f cd A outer s H E) (e::es) t)(hj:k<=j:=by decide)(hg:Gl (cxE P w K mg base N qual scope f cd A outer s H E) x:=by rfl)(hdb:(x==("__debug__":Str))=Rn:=by decide)(he:starEach (e::es) (cxE P w K mg base N qual scope f cd A outer s H E).env=(Rn,eval e (cxE P w K mg base N qual scope f cd A outer s H E).env)::starEach es (cxE P w K mg base N qual scope f cd A outer s H E).env:=by rfl)(hpl:(backTo pos (starEach es (cxE P w K mg base N qual scope f cd A outer s H E).env)).any (·.1)=Rn:=by rfl) :
  PE (cxE P w K mg base N qual scope f cd A outer s H E) (.Call (.Name x p) (e::es) [] pos) (jo sp [] E t):=uL (X:=cxE P w K mg base N qual scope f cd A outer s H E) F (hr.mono hj) hg T.m T.F.kp T.b .nil (NM λ _ _ _ h=>h) ha hdb he hpl
theorem pCT {E':XK}{pn:gL}{sp:Sp}{t:TA}(T:FnT X.K X.mg x st ps)(F:pE X.prog X.w X.K X.mg X.base (CXE X.prog X.w) k T.f T.fd ps sp)(hr:jt j X.A)(ha:PA (X.AH E' pn) (e::es) t)(hx:X.ex=[]:=by rfl)(hj:k<=j:=by decide)(hg:Gl X x:=by rfl)(hdb:(x==("__debug__":Str))=Rn:=by decide)(he:starEach (e::es) X.env=(Rn,eval e X.env)::starEach es X.env:=by rfl)(hpl:(backTo pos (starEach es X.env)).any (·.1)=Rn:=by rfl) :
  PE (X.AH E' pn) (.Call (.Name x p) (e::es) [] pos) (jo sp [] E' t):=uL (X:=X.AH E' pn) F (hr.mono hj) hg T.m T.F.kp T.b .nil (LW rfl rfl hx) ha hdb he hpl
end
end L2
namespace HT
open PySem PySem.Spec PyProof.Rows
variable {prog:Program}{w:World}{A:Around}{E:gE}{s:gJ}
theorem qV {t sl:Addr}{items:Array gH}{vl vu:gH}{lo hi:gF Int}{Q:gE}(ht:IsTup s.heap t items)(hs:s.heap.IsSliceOf sl vl vu .none)(pl:IsPart vl lo)(pu:IsPart vu hi)
  (h1:sIx items.size 0 lo=0) (h2:sIx items.size items.size hi=items.size)
  (h:Q (.ref t) s):wpAny (model prog w) A (getItem (.ref t) (.ref sl)) Q E s:=by
 obtain⟨os,hos,hcs,hds⟩:=id hs;have hTs:s.TypeIs (.ref sl) "slice":=⟨os,hos,hcs⟩;unfold getItem;try with_reducible refine bK ?_
 first | refine ae (af ?_) | skip
 refine ae (fM ht.typeIs (by decide) ?_);refine ae (bJ (name:=Str.ofString "__getitem__") ht.typeIs ba
  (bY ba ht.typeIs entry_tuple_getitem ?_ (args_tuple_getitem _ _)))
 show wpAny _ _ (Builtin.Tuple.tupleItemsOf (.ref t)>>=_) _ _ s;refine ae (tupleItemsOf_ ht ?_);refine ae (eR hTs ?_);rw[ai (by decide)];refine ae (nI hs pl pu ?_);show wpAny _ _ (if (((sIx items.size 0 lo:Nat):Int)==0&&(1:Int)==1&&(sIx items.size items.size hi-sIx items.size 0 lo)==items.size)=Rm then _ else _) _ _ s;rw[ai (by rw[h1,h2];simp)];refine ae (m:=Builtin.Tuple.tupleIsExact _) (ae (eR ht.typeIs (af ?_)));rw[ai (by decide)];refine ae (wpAny_rule ?_);exact af ⟨_,rfl,af h⟩
end HT
namespace L2
open PySem PySem.Spec PyProof.Rows Zp Qs
variable {X:Cx}
def Qa (K:gG):V->gF Int->gF Int->Hp->VK->Prop:=λ x lo hi H Q=>∃ a xs,x=.ref a/\SqT K H a xs /\
 (HT.sIx xs.length 0 lo=0/\HT.sIx xs.length xs.length hi=xs.length)/\Q (.ref a) H
theorem zc:SlR X (Qa X.K):=by
 intro pins s σ H x v vl vu lo hi sl Q I rx hs pl pu h;obtain⟨a,xs,rfl,hx,hw,q⟩:=h;cases rx;obtain⟨its,r,ht,hz⟩:=I.tuple hx;have hlen:its.toArray.size=xs.length:=by rw[ao];exact r.length.symm
 refine⟨"tuple",_,ba.lookup,ht.typeIs,?_⟩;exact HT.qV ht hs pl pu (by rw[hlen];exact hw.1) (by rw[hlen];exact hw.2) ⟨.ref a,H,I,rfl,q⟩
def Gi:Dt->gF Dt
 | .tup ds=>My (.tup ds.tail)
 | _=>Rl
def B3 (g:DE->gF Dt):DE->gF Dt:=λ δ=>(g δ).bind Gi
theorem IH {ga:DE->gF Dt}{j:Nat}{p p2 pos:Pos}{a:Expr}(ha:PD X a ga):PD X (.Subscript a (.Slice (My (.Constant (.int 1) j p)) Rl Rl p2) pos) (B3 ga) :=
 (vg (Bs.or zc) ha (yA (hJ (i:=1))) yz).of λ σ H Q hz1=>by
  obtain⟨δ,d,S,e,q⟩:=hz1;obtain⟨x,e1,e2⟩:=gQ e;match x,e1,e2 with
  | .tup [],e1,e2 =>cases e2;refine⟨δ,_,S,e1,λ v H1 s1 i1=>?_⟩;obtain⟨p,xs,rfl,hp,is⟩:=i1.ip;cases is;exact⟨1,rfl,.inr ⟨p,[],rfl,hp,⟨rfl,rfl⟩,q _ _ s1 i1⟩⟩
  | .tup (d0::ds),e1,e2 =>
   cases e2;refine⟨δ,_,S,e1,λ v H1 s1 i1=>?_⟩;obtain⟨p,xs,rfl,hp,is⟩:=i1.ip;cases is with
   | cons i1 i2 =>
    refine⟨1,rfl,.inl ⟨p,_,rfl,hp,?_,λ p' hp'=>?_⟩⟩
    ·rintro⟨z,_⟩;have z:HT.sIx _ 0 (My ((1:Nat):Int))=0:=z;rw[HT.nc]at z;simp at z
    ·refine q _ _ (s1.trans (gY.upd hp')) (.tup (SqT.of gW) ?_);rw[DO];exact i2.ext (gY.upd hp')
def lE:List Dt->gF Dt
 | [x]=>(dTt x).bind λ l=>if l.length<=1000 then My (.bl (rise l)) else Rl
 | _=>Rl
def oF:DE->gF RD:=(kN (iU uC (gN (gLC ["one","following"] [] (LI Rm Rm (gN (gS 0) (gN (B3 (gS 0)) gR))) (nM 0 1) jU (hU FE (gS 0) (gS 1))) gR)))
set_option tactic.hygienic true in
theorem xm:Hg 1 Az lE oF:=by
 intro ds d hl h;match ds,h with
 | [x],h =>
  obtain⟨l,e1,h⟩:=gQ (show(dTt x).bind _=_ from h);split at h
  ·rename_i hc
   cases h;rw[uQ e1];refine⟨.rt (.bl (rise l)),?_,rfl⟩;have lc:=rV (enc:=λ pq:(Nat×Nat)×(Nat×Nat)=>Dt.tup [g6 pq.1,g6 pq.2]) (gg:=nM 0 1) (ge:=hU FE (gS 0) (gS 1)) (δc:=[Rl,Rl]) (δa:=λ pq=>[My (g6 pq.1),My (g6 pq.2)]) (enc':=λ pq=>.bl (mj pq.1 pq.2)) (l.zip l.tail) λ a _=>⟨rfl,by simp[g6,gO,FE,nu,uB,mj]⟩
   have ez:=Iw l;have e2:(l.zip l.tail).map (λ pq=>Dt.bl (mj pq.1 pq.2))=((l.zip l.tail).map λ pq=>mj pq.1 pq.2).map Dt.bl:=by simp
   rw[e2]at lc;have e3:((l.zip l.tail).map λ pq=>mj pq.1 pq.2).all id=rise l:=by simp[rise,eV,dw]
   have e4:(l.zip l.tail).length<=1000:=by rw[List.length_zip];lia
   have e6:Ie Rm Rm [iJ l,.tup (l.tail.map g6)]=My ((l.zip l.tail).map λ pq=>Dt.tup [g6 pq.1,g6 pq.2]):=by rw[<-ez];rfl
   have e7:Gi (iJ l)=My (.tup (l.tail.map g6)):=by rw[List.map_tail];rfl
   generalize (l.zip l.tail).map (λ pq=>mj pq.1 pq.2)=bs at lc e3;generalize hzs:(l.zip l.tail).map (λ pq=>Dt.tup [g6 pq.1,g6 pq.2])=zs at lc e6;have e8:zs.length<=1000:=by rw[<-hzs,ah];exact e4
   rw[show l.tail.map g6=(l.map g6).tail from by simp]at e6 e7;simp[oF,B3,e7,e6,e8,lc,e3]
  ·cases h
section
variable {w wt:Web}(g:Good w)
include g
omit g in
def nrL (w:Web)(i:Nat):List Nat:=(Ro w.1).filter λ o=>decide (uF i o∈w.2)
theorem Good.tP {i o:Nat}:o∈nrL w i↔o∈nb w.2 i:=by unfold nrL;rw[bg,aD,decide_eq_true_iff,<-g.LM];exact⟨λ h=>h.2,λ h=>⟨(g.nz h).1,h⟩⟩
theorem Good.L5 (i:Nat)(f:Nat->Rat):((nrL w i).map f).sum=((nb w.2 i).map f).sum:=by
 rw[<-B1 (n:=w.1) f (nrL w i) (cM.filter _) (λ x hx=>aD.mp (bg.mp hx).1),<-B1 (n:=w.1) f _ (g.C7 i) λ x hx=>(g.nz hx).1];refine Dt0.pS λ j _=>?_;by_cases c:j∈nb w.2 i
 ·rw[ai c,ai (g.tP.mpr c)]
 ·rw[aq c,aq λ z=>c (g.tP.mp z)]
theorem Good.L6 (i:Nat):(nrL w i).length=dg w i:=by
 have:=g.L5 i λ _=>1;rw[vS,vS]at this;have h:((nrL w i).length:Rat)=(dg w i:Rat):=by unfold dg;grind
 exact Rat.natCast_inj.mp h
end
end L2
namespace L2
open PySem PySem.Spec PyProof.Rows PySem.W Builtin Builtin.ObjectAttr Builtin.Getset_descriptor
structure ExT (K:gG)(C:Addr):Prop where
 ga:findIn K (.ref C) "__getattribute__"=My (My (.builtin "BaseException.__getattribute__"))
 gh:findIn K (.ref C) "__getattr__"=My Rl
 cl:findIn K (.ref C) "__class__"=My (My (.builtin "object.__class__"))
 sp:specialIn K (.builtin "object.__class__") "__get__"=My (My (.builtin "getset_descriptor.__get__"))
 tk:takesIn K (.builtin "object.__class__")=My Rm
 mo:mroIn K C (.type "object")=My Rm
 sb:subIn K (.ref C) (.type "BaseException")=My Rm
 is:(clsIn K C).isSome=Rm
section
variable {prog:Program}{w:World}{A:Around}{E:gE}{s:gJ}{K:gG}{x C:Addr}
theorem nU {M:Model}{h:Heap}(e:isC x (.ref C) h):Looks M h (typeOf (.ref x)) (.ref C):=by obtain⟨oe,e1,e2⟩:=e;rw[<-e2];exact(Looks.ld e1).andThen .now
theorem II {R:Result->gJ->Prop}{tp:gH}(X:K.In s.heap)(I:isC x (.ref C) s.heap)(hm:mroIn K C (.type "object")=My Rm)
  (h:R (.ok (.ret (.ref C))) s):codeAny (model prog w) A (.call (.builtin "getset_descriptor.__get__") ⟨[.builtin "object.__class__",.ref x,tp],[]⟩) R s:=by
 obtain⟨hh,g,dr,t,os⟩:=s;have L0:=nU (M:=model prog w) I;have L1:=looks_mroIn (M:=model prog w) X hm;refine codeAny_call_builtin KF.slot_gs.plain KF.entry_gs (KF.slot_gs.check _ _ _ _ _ _ _ _ KF.type_class (KF.args_gs _ _ _) ?_);unfold Builtin.«getset_descriptor.__get__» descrGet;rw[dga_obj];refine ae (af ?_);unfold descrGetter descrCheckInstance descrNameAndClass isInstance;simp only[KF.owner_class];repeat lk
 refine⟨fK _ (by decide +kernel),codeAny_builtin KF.entry_class ?_⟩;unfold Builtin.«object.__class__» shownTypeOf;repeat lk
 exact h
theorem D1 {tk:Tok}{Q:Fin->gJ->Prop}(X:K.In s.heap)(T:ExT K C)(I:isC x (.ref C) s.heap)(hq:Q (.done (.ret (.ref C))) s) :
  wpAny (model prog w) A (Builtin.«object.__getattribute__» ⟨[.ref x,.str "__class__" tk],[]⟩) Q E s:=by
 obtain⟨hh,g,dr,t,os⟩:=s;have L0:=nU (M:=model prog w) I;have L1:=looks_findIn (M:=model prog w) X T.cl;have L2:=looks_specialIn (M:=model prog w) X T.sp;have L3:=looks_takesIn (M:=model prog w) X T.tk;unfold Builtin.«object.__getattribute__»;repeat lk
 refine wpAny_run (h:=Rl) (II X I T.mo ?_);exact af (af hq)
theorem D2 {M:Model}{nameV:gH}{Q:Unit->gJ->Prop}(X:K.In s.heap)(T:ExT K C)(I:isC x (.ref C) s.heap)(hq:Q () s):wpAny M A (checkBuiltinCall "BaseException.__getattribute__" ⟨[.ref x,nameV],[]⟩) Q E s:=by
 obtain⟨hh,g,dr,t,os⟩:=s;have hk:builtinKind "BaseException.__getattribute__"=My .slot:=by decide +kernel
 have hsplit:splitId "BaseException.__getattribute__"=My ("BaseException","__getattribute__"):=by decide +kernel
 have ha:=F.args_bexc_ga (.ref x) nameV;have L0:=nU (M:=M) I;have L1:=looks_subIn (M:=M) X T.sb;simp only[checkBuiltinCall,hk,hsplit];refine ae ?_;unfold isInstance;repeat lk
 exact hq
theorem D3 {Q:gF gH->gJ->Prop}(X:K.In s.heap)(T:ExT K C)(I:isC x (.ref C) s.heap)(h:Q (My (.ref C)) {s with toks:=s.toks+1}):wpAny (model prog w) A (getAttr? (.ref x) "__class__") Q E s:=by
 obtain⟨hh,g,d,t,os⟩:=s;have L0:=nU (M:=model prog w) I;have L1:=looks_findIn (M:=model prog w) X T.ga;have L2:=looks_findIn (M:=model prog w) X T.gh;unfold getAttr? getAttrBy? getAttrBy;refine ae (wpAny_mkText (ae (eo (bK (ae (L0.at (ae (L1.at ?_))))))));have hx2:(Value.builtin "BaseException.__getattribute__"==Value.builtin "object.__getattribute__")=Rn:=by decide +kernel
 have hx1:(onTheHeap (Value.ref C)&&Value.builtin "BaseException.__getattribute__"==Value.builtin "object.__getattribute__")=Rn:=by rw[hx2];rfl
 dsimp only;rw[aq (by rw[hx1];exact au)];unfold getAttrByItsOwn hookBefore;rw[ai (by rfl)];refine ae (L2.at (ae (eo (bK ?_))));unfold callGetattribute boundAndCalled;rw[aq (by decide)];rw[F.excAttr_ValueError.ga.bind (.ref x)];refine ae (af (f6 (codeAny_call_builtin F.excAttr_ValueError.ga.plain F.entry_bexc_ga (D2 X T I (D1 X T I ?_)))));exact handed_on rfl (af h)
set_option tactic.hygienic true in
theorem Gj (T:ExT K C):KitX K (.ref x) (.ref C) (isC x (.ref C)) where
 ty:=λ _ _ _ I=>nU I
 it:=λ _ _ X _=>by
  obtain⟨cdD,hcD⟩:=dz.mp T.is;unfold clsIn at hcD;split at hcD
  ·rename_i c' d' cd' sl' ho;intro A' Q' E' s' k q;unfold isType loadHead;exact ae (wpAny_loadPart (k _ _ (X _ _ ho)) (af q))
  ·cases hcD
 ne:=λ h tp dd its n sl X htp=>by
  obtain⟨cdD,hcD⟩:=dz.mp T.is;refine Bool.eq_false_iff.mpr λ q=>?_;have e:C=tp:=Value.ref.inj (beq_iff_eq.mp q);subst e;unfold clsIn at hcD;split at hcD
  ·rename_i c' d' cd' sl' ho;have z:=(X _ _ ho).symm.trans htp;cases z
  ·cases hcD
 ca:=λ X I k=>D3 X T I k
end
def Qb (K:gG)(c:gH)(b:Bool):List V->Hp->VK->Prop:=λ xs H Q=>∃ a C v,xs=[.ref a,v]/\RelV v c/\H a=My (.ext (isC a (.ref C)))/\ExT K C/\kitOne K (.ref C) c=My b/\Q (.bl b) H
end L2
namespace L2
open PySem PySem.Spec PyProof.Rows Zp Qs PySem.SeqAt
section
variable {X:Cx}{o e:Expr}{p pos:Pos}
theorem NN {c:gH}{b:Bool}:jq X (.builtin "isinstance") (Qb X.K c b):=by
 intro pins s σ H xs us Q I rs h;obtain⟨a,C,v,rfl,rv,ha,T,k,q⟩:=h;obtain⟨u,u',rfl,r1,r2⟩:=vals2 rs;cases r1;have e:u'=c:=by
  cases v with
  | ref z=>exact(show u'=Value.ref z from r2).trans (show c=Value.ref z from rv).symm
  | ty n=>exact(show u'=Value.type n from r2).trans (show c=Value.type n from rv).symm
  | non=>exact(show u'=Value.none from r2).trans (show c=Value.none from rv).symm
  | bl b=>exact(show u'=Value.bool b from r2).trans (show c=Value.bool b from rv).symm
  | int i=>obtain⟨t,rfl⟩:=rv;cases k
  | str i=>obtain⟨t,rfl⟩:=rv;cases k
  | byt i=>obtain⟨t,rfl⟩:=rv;cases k
  | flt i=>obtain⟨t,rfl⟩:=rv;cases k
 subst e;have ok:jm X.prog X.w H s.heap a (.ext (isC a (.ref C))):=I.hok a _ ha;exact gn (Gj T) I.kIn ok.1 k (λ z=>nomatch z) λ tk=>⟨.bl b,H,I.tok _,rfl,q⟩
def Ko (x y:Dt):gF Dt:=(qR x).bind λ es=>(xi es).bind λ bs=>match y with
 | .bl Rm=>My (.int (bs.countP id:Nat))
 | _=>Rl
def Kq (x y:Dt):gF Dt:=(qR x).bind λ es=>(xi es).bind λ bs=>match y with
 | .bl Rm=>if bs.length<=1000 then (bs.findIdx? id).map λ(j:Nat)=>Dt.int j else Rl
 | _=>Rl
def NO (K:gG):V->List V->Hp->VK->Prop:=λ x xs H Q=>∃ bs:List Bool,xs=[.bl Rm]/\Is K H x (.lst (bs.map .bl))/\Q (.int (bs.countP id:Nat)) H
def NP (K:gG):V->List V->Hp->VK->Prop:=λ x xs H Q=>∃ (bs:List Bool) (j:Nat),xs=[.bl Rm]/\Is K H x (.lst (bs.map .bl))/\bs.length<=1000/\bs.findIdx? id=My j/\Q (.int j) H
theorem vU {K:gG}{H:Hp}:∀ {bs:List Bool} {xs:List V} {its:List gH},Iss K H xs (bs.map .bl)->Vals xs its->its=bs.map Value.bool
 | [],_,_,js,r=>by cases js;cases r;rfl
 | b::bs,_,_,js,r=>by
  cases js with
  | cons i is =>
   cases r with
   | cons r rs =>rw[i.jk]at r;cases r;rw[vU is rs];rfl
theorem vV {A:Around}{s:gJ}{w:gH}{bs:List Bool}(hw:w∈(bs.map Value.bool).toArray):EqAt A s w (.bool Rm) (w==.bool Rm):=by
 obtain⟨b,_,rfl⟩:=aA.mp (List.mem_toArray.mp hw);have:=EqAt.bool_bool (A:=A) (s:=s) b Rm;have e:(Value.bool b==Value.bool Rm)=(b==Rm):=by cases b<;>rfl
 rw[e];exact this
theorem IJ:MtR X "list.count" (NO X.K):=by
 intro pins s σ H x xs v us Q I rx rv h;obtain⟨bs,rfl,i1,q⟩:=h;obtain⟨u,rfl,ru⟩:=rv.one;cases ru;obtain⟨p,ys,rfl,hp,js⟩:=i1.lst_inv;cases rx;obtain⟨its,rvs,pl,hz⟩:=I.list (SqL.of hp);have e:=vU js rvs;subst e;obtain⟨⟨cls,dd,data,sl⟩,ho,hc,n,hd⟩:=id pl.isList;simp only at hc hd;subst hc hd;refine call_meets F.slot_list_count ⟨_,ho,rfl⟩ F.entry_list_count (F.args_list_count_2 _ _) (list_countAt p (bs.map Value.bool).toArray n dd sl (.bool Rm) (λ w=>w==.bool Rm)) ⟨ho,λ w hw=>vV hw,?_⟩;have e:(bs.map Value.bool).toArray.toList.countP (λ w=>w==Value.bool Rm)=bs.countP id:=by rw[List.toList_toArray,List.countP_map];congr 1;funext b;cases b<;>rfl
 rw[e];exact⟨.int (bs.countP id:Nat),H,I.tok _,⟨_,rfl⟩,q⟩
theorem IK:MtR X "list.index" (NP X.K):=by
 intro pins s σ H x xs v us Q I rx rv h;obtain⟨bs,j,rfl,i1,hl,fj,q⟩:=h;obtain⟨u,rfl,ru⟩:=rv.one;cases ru;obtain⟨p,ys,rfl,hp,js⟩:=i1.lst_inv;cases rx;obtain⟨its,rvs,pl,hz⟩:=I.list (SqL.of hp);have e:=vU js rvs;subst e;obtain⟨⟨cls,dd,data,sl⟩,ho,hc,n,hd⟩:=id pl.isList;simp only at hc hd;subst hc hd;obtain⟨hj,hj1,hj2⟩:=List.findIdx?_eq_some_iff_getElem.mp fj;refine call_meets F.slot_list_index ⟨_,ho,rfl⟩ F.entry_list_index (F.args_list_index_2 _ _) (list_indexAt p (bs.map Value.bool).toArray n dd sl (.bool Rm) (λ w=>w==.bool Rm) j (by simpa using hj) (by lia) (by
  have:bs[j]=Rm:=hj1;simp[this]) (λ m hm hmj=>by
  have:¬ bs[m]=Rm:=hj2 m hmj;have:bs[m]=Rn:=by simpa using this
  simp[this])) ⟨ho,λ w hw=>vV hw,?_⟩
 exact⟨.int j,H,I.tok _,⟨_,rfl⟩,q⟩
theorem L7 {apos cpos:Pos}{ga gb:DE->gF Dt}(ha:PD X o ga)(hb:PD X e gb)(hbase:attributeBase o "count" X.env (eval o X.env)=eval o X.env:=by rfl)
  (hfew:((backTo cpos (starEach [e] X.env)).all (λ x=>!x.1)&&(backToKw cpos (keywordEach [] X.env)).all (λ x=>x.1.isSome)&&decide (([e]:List Expr).length+([]:List Keyword).length+(if ([]:List Keyword).isEmpty then 0 else 1)<30))=Rm:=by rfl)
  (hline:(apos.endLine==cpos.line)=Rm:=by rfl) (hs:starEach [e] X.env=[(Rn,eval e X.env)]:=by rfl):PD X (.Call (.Attribute o "count" apos) [e] [] cpos) (hU Ko ga gb) :=
 (xI F.plainAttrs_list F.slot_list_count F.type_list_count IJ ha (gP hb g_ hs) hbase hfew hline hs).of λ σ H Q hz=>by
  obtain⟨δ,d,S,e1,q⟩:=hz;obtain⟨x,y,f1,f2,f3⟩:=rL e1;obtain⟨es,g1,g2⟩:=gQ f3;obtain⟨bs,g3,g4⟩:=gQ g2;obtain rfl:=jV g1;obtain rfl:=rR g3;match y,g4,f2 with
  | .bl Rm,g4,f2 =>cases g4;refine⟨δ,_,S,f1,λ v H1 s1 i1=>?_⟩;obtain⟨a,xs,rfl,hq,is⟩:=id i1.lst_inv;refine⟨.inl ⟨rfl,xs,SqL.of hq⟩,δ,_,S.ext s1,f2,λ v2 H2 s2 i2=>?_⟩;exact⟨bs,by rw[i2.jk],i1.ext s2,q _ H2 (s1.trans s2) (.int _)⟩
theorem L_ {apos cpos:Pos}{ga gb:DE->gF Dt}(ha:PD X o ga)(hb:PD X e gb)(hbase:attributeBase o "index" X.env (eval o X.env)=eval o X.env:=by rfl)
  (hfew:((backTo cpos (starEach [e] X.env)).all (λ x=>!x.1)&&(backToKw cpos (keywordEach [] X.env)).all (λ x=>x.1.isSome)&&decide (([e]:List Expr).length+([]:List Keyword).length+(if ([]:List Keyword).isEmpty then 0 else 1)<30))=Rm:=by rfl)
  (hline:(apos.endLine==cpos.line)=Rm:=by rfl) (hs:starEach [e] X.env=[(Rn,eval e X.env)]:=by rfl):PD X (.Call (.Attribute o "index" apos) [e] [] cpos) (hU Kq ga gb) :=
 (xI F.plainAttrs_list F.slot_list_index F.type_list_index IK ha (gP hb g_ hs) hbase hfew hline hs).of λ σ H Q hz=>by
  obtain⟨δ,d,S,e1,q⟩:=hz;obtain⟨x,y,f1,f2,f3⟩:=rL e1;obtain⟨es,g1,g2⟩:=gQ f3;obtain⟨bs,g3,g4⟩:=gQ g2;obtain rfl:=jV g1;obtain rfl:=rR g3;match y,g4,f2 with
  | .bl Rm,g4,f2 =>
   by_cases hl:bs.length<=1000
   rotate_left
   ·cases (aq hl).symm.trans (show(if bs.length<=1000 then _ else _)=_ from g4)
   obtain⟨j,g5,rfl⟩:=ir ((ai hl).symm.trans (show(if bs.length<=1000 then (bs.findIdx? id).map λ(j:Nat)=>Dt.int j else Rl)=_ from g4));refine⟨δ,_,S,f1,λ v H1 s1 i1=>?_⟩;obtain⟨a,xs,rfl,hq,is⟩:=id i1.lst_inv;refine⟨.inl ⟨rfl,xs,SqL.of hq⟩,δ,_,S.ext s1,f2,λ v2 H2 s2 i2=>?_⟩;exact⟨bs,j,by rw[i2.jk],i1.ext s2,hl,g5,q _ H2 (s1.trans s2) (.int _)⟩
end
end L2
namespace L2
open PySem PySem.Spec PyProof.Rows Zp Qs
structure CkT (K:gG)(mg:gD)(n:Str)(C:Addr)(b:Bool) where
 D:Addr
 m:mg n=My (.ref D)
 k:PySem.W.kitOne K (.ref C) (.ref D)=My b
section
variable {X:Cx}{e:Expr}{pos p p2:Pos}
def IL (C:Addr)(b:Bool):TE:=λ σ H Q=>(∃ a,σ[0]?=My (My (.ref a))/\H a=My (.ext (isC a (.ref C))))/\Q (.bl b) H
theorem Gk {y:Str}{v:V}{c:gH}{C:Addr}{b:Bool}(z:X.mg "isinstance"=Rl)(T:ExT X.K C)(h0:PE X (.Name y p2) (hX 0))(he:PE X e (tC v))(rv:RelV v c)(k:PySem.W.kitOne X.K (.ref C) c=My b)(hg:Gl X "isinstance":=by rfl)
  (hs1:starEach [.Name y p2,e] X.env=(Rn,eval (.Name y p2) X.env)::starEach [e] X.env:=by rfl) (hs2:starEach [e] X.env=[(Rn,eval e X.env)]:=by rfl) (hpl:(backTo pos (starEach [e] X.env)).any (·.1)=Rn:=by rfl):PE X (.Call (.Name "isinstance" p) [.Name y p2,e] [] pos) (IL C b) :=
 (jH (NN (c:=c) (b:=b)) hg z boot_isinstance (gP h0 (gP he g_ hs2) hs1) (he:=hs1) (hpl:=hpl)).of λ σ H Q h=>by obtain⟨⟨a,h1,h2⟩,q⟩:=h;exact⟨_,h1,a,C,v,rfl,rv,h2,T,k,q⟩
theorem kW {x y:Str}{C:Addr}{b:Bool}{p3:Pos}(z:X.mg "isinstance"=Rl)(T:ExT X.K C)(J:CkT X.K X.mg x C b)(h0:PE X (.Name y p2) (hX 0))(hg:Gl X "isinstance":=by rfl)(hg2:Gl X x:=by rfl)(hd:(x==("__debug__":Str))=Rn:=by decide)
  (hs1:starEach [.Name y p2,.Name x p3] X.env=(Rn,eval (.Name y p2) X.env)::starEach [.Name x p3] X.env:=by rfl) (hs2:starEach [.Name x p3] X.env=[(Rn,eval (.Name x p3) X.env)]:=by rfl) (hpl:(backTo pos (starEach [.Name x p3] X.env)).any (·.1)=Rn:=by rfl):PE X (.Call (.Name "isinstance" p) [.Name y p2,.Name x p3] [] pos) (IL C b) :=
 Gk z T h0 (Cn (v:=.ref J.D) hg2 J.m rfl hd) rfl J.k hg hs1 hs2 hpl
theorem uG:bootBuiltins "ValueError"=My (.type "ValueError"):=by decide +kernel
theorem Ma {y:Str}{C:Addr}{b:Bool}{p3:Pos}(z:X.mg "isinstance"=Rl)(z2:X.mg "ValueError"=Rl)(T:ExT X.K C)(k:PySem.W.kitOne X.K (.ref C) (.type "ValueError")=My b)(h0:PE X (.Name y p2) (hX 0))(hg:Gl X "isinstance":=by rfl)(hg2:Gl X "ValueError":=by rfl)
  (hs1:starEach [.Name y p2,.Name "ValueError" p3] X.env=(Rn,eval (.Name y p2) X.env)::starEach [.Name "ValueError" p3] X.env:=by rfl) (hs2:starEach [.Name "ValueError" p3] X.env=[(Rn,eval (.Name "ValueError" p3) X.env)]:=by rfl) (hpl:(backTo pos (starEach [.Name "ValueError" p3] X.env)).any (·.1)=Rn:=by rfl):PE X (.Call (.Name "isinstance" p) [.Name y p2,.Name "ValueError" p3] [] pos) (IL C b) :=
 Gk z T h0 (Co (v:=.ty "ValueError") hg2 z2 uG rfl) rfl k hg hs1 hs2 hpl
end
def tIs (C:Addr):List Bool->TA
 | []=>iA
 | b::bs=>gX (IL C b) (tIs C bs)
theorem Gm {C:Addr}{σ:St}{H:Hp}{a:Addr}(h0:σ[0]?=My (My (.ref a)))(h1:H a=My (.ext (isC a (.ref C)))):∀ (bs:List Bool) (Q:List V->Hp->Prop),Q (bs.map V.bl) H->tIs C bs σ H Q
 | [],_,q=>q
 | b::bs,Q,q=>⟨⟨a,h0,h1⟩,Gm h0 h1 bs _ q⟩
theorem AJ {K:gG}{H:Hp}:∀ (bs:List Bool),Iss K H (bs.map V.bl) (bs.map Dt.bl)
 | []=>.nil
 | b::bs=>.cons (.bl b) (AJ bs)
open PySem.SeqAt
section
variable {X:Cx}{a b e:Expr}{pos:Pos}
def Gn (x y:Dt):gF Dt:=(qR x).bind λ a=>(qR y).bind λ b=>(C2 a).bind λ ns=>(C2 b).bind λ ms=>if ns.length=ms.length then My (.bl (!decide (ns=ms))) else Rl
theorem D4:∀ (ns ms:List Str),rN (ns.map .str) (ms.map .str)=Rm:=by
 intro ns;induction ns with
 | nil=>intro ms;rfl
 | cons n r ih =>
  intro ms;cases ms with
  | nil=>rfl
  | cons m t=>rw[aS,aS,rN,ih t];rfl
theorem D5:∀ (ns ms:List Str),mi (ns.map .str) (ms.map .str)=decide (ns=ms):=by
 intro ns;induction ns with
 | nil=>intro ms;cases ms<;>simp[mi]
 | cons n r ih =>
  intro ms;cases ms with
  | nil=>simp[mi]
  | cons m t =>rw[aS,aS,mi,ih t,yW,bC];simp
theorem Kr (hu:X.A.units+2<cLine):OpR X (compareOp .NotEq) (rD X.K Gn):=by
 intro pins s σ H x y v u Q I rx ry hz;obtain⟨d,d',r,i,i',e,q⟩:=hz;obtain⟨a,e1,f1⟩:=gQ e;obtain⟨b,e2,f2⟩:=gQ f1;obtain⟨ns,e3,f3⟩:=gQ f2;obtain⟨ms,e4,f4⟩:=gQ f3;obtain rfl:=jV e1;obtain rfl:=jV e2;obtain rfl:=xV e3;obtain rfl:=xV e4;clear e f1 f2 f3 e1 e2 e3 e4;by_cases hl:ns.length=ms.length
 ·rw[ai hl]at f4
  cases f4;obtain⟨p,xs,rfl,hp,is⟩:=i.lst_inv;obtain⟨p',ys,rfl,hq,js⟩:=i'.lst_inv;cases rx;cases ry;obtain⟨its,rv,t1,_⟩:=I.list (SqL.of hp);obtain⟨its',rv',t2,_⟩:=I.list (SqL.of hq);have l1:its.length=ns.length:=by rw[<-rv.length,is.length,ah]
  have l2:its'.length=ms.length:=by rw[<-rv'.length,js.length,ah]
  have hsz:its.toArray.size=its'.toArray.size:=by rw[ao,ao,l1,l2,hl]
  have:=RcNeAt.lists (A:=X.A) (s:=s) (l:=p) (b:=p') (items:=its.toArray) (items2:=its'.toArray) (e:=eAt (ns.map .str) (ms.map .str)) t1.isList t2.isList hsz (by lia) (oz is js rv rv' λ h1 h2 i1 i2 r1 r2=>Ak (pN (D4 ns ms) h1 h2) i1 i2 r1 r2);have ea:=mV is js rv rv';rw[hsz,gf,beq_self_eq_true,dB,D5]at ea;rw[hsz,ea]at this;exact this X.prog X.w X.xe _ ⟨.bl _,H,I,rfl,q _ H (gY.refl H) (.bl _)⟩
 ·rw[aq hl]at f4;cases f4
theorem vW {K:gG}{H:Hp}:∀ {vs:List V} {ds:List Dt},Iss K H vs ds->∀ k,Iss K H (vs.take k) (ds.take k)
 | _,_,_,0=>.nil
 | _,_,.nil,_+1=>.nil
 | _,_,.cons i is,k+1=>.cons i (vW is k)
theorem D6 (xs:List V)(k:Nat):uy xs Rl (My (k:Int))=xs.take k:=by unfold uy;rw[HT.vf,HT.nc];simp
end
end L2
namespace L2
open PySem PySem.Spec PyProof.Rows Zp
section
variable {prog:Program}{w:World}{A:Around}{E:gE}{s:gJ}
theorem B4 {n:Nat}(h:0<n):Builtin.Slice.sliceAdjust Rl Rl (-1) (n:Int)=((n:Int)-1,-1):=by unfold Builtin.Slice.sliceAdjust;simp
theorem B5 {n:Nat}(h:0<n):Builtin.Slice.slicePlaces ((n:Int)-1) (-1) (-1)=n:=by unfold Builtin.Slice.slicePlaces;simp;split<;>lia
theorem tQ {sl:Addr}{vk:gH}{n:Nat}{Q:Int×Int×Nat->gJ->Prop}(hn:0<n)(hs:s.heap.IsSliceOf sl .none .none vk)(pk:IsPart vk (My (-1)))
  (h:Q ((n:Int)-1,-1,n) s):wpAny (model prog w) A (Builtin.Slice.sliceApplied (.ref sl) (pure (n:Int))) Q E s:=by
 obtain⟨os,hos,hcs,hds⟩:=id hs;unfold Builtin.Slice.sliceApplied Builtin.Slice.sliceFields;refine ae (ae (bU hos hds (x:=.none) rfl (ae (bU hos hds (x:=.none) rfl (ae (bU hos hds (x:=vk) rfl (af ?_)))))));refine ae (HT.mR pk ?_);show wpAny _ _ (if ((-1:Int)==0)=Rm then _ else _) _ _ s;rw[aq (by decide)];refine ae (HT.mR .none (ae (HT.mR .none (ae (af ?_)))));show wpAny _ _ (match Builtin.Slice.sliceAdjust Rl Rl (-1) (n:Int) with | (lo,hi)=>pure (lo,(-1:Int),Builtin.Slice.slicePlaces lo hi (-1))) _ _ s;rw[B4 hn];show wpAny _ _ (pure ((n:Int)-1,(-1:Int),Builtin.Slice.slicePlaces ((n:Int)-1) (-1) (-1))) _ _ s;rw[B5 hn];exact af h
theorem Gp {α:Type}(l:List α):(Ro l.length).filterMap (λ m=>l[m]?)=l:=by
 refine fR λ i=>?_;have:(Ro l.length).filterMap (λ m=>l[m]?)=(Ro l.length).filterMap (λ m=>l[m]?):=rfl;induction l generalizing i with
 | nil=>rfl
 | cons x r ih =>
  rw[bX,List.range_succ_eq_map,bE];show(x::((Ro r.length).map Nat.succ).filterMap λ m=>(x::r)[m]?)[i]?=_;rw[List.filterMap_map];cases i with
  | zero=>rfl
  | succ i =>rw[bZ,bZ,<-ih i rfl];rfl
theorem Gq {α β:Type}{f g:α->gF β}:∀ {l:List α},(∀ x∈l,f x=g x)->l.filterMap f=l.filterMap g:=by
 intro l;induction l with
 | nil=>intro _;rfl
 | cons x r ih =>intro h;rw[bE,bE,h x ay,ih λ y hy=>h y (aw _ hy)]
theorem Gr (xs:Array gH):((Ro xs.size).filterMap λ(m:Nat)=>xs[(((xs.size:Int)-1)+(m:Int)*(-1)).toNat]?).toArray=xs.toList.reverse.toArray:=by
 congr 1;have e:(Ro xs.size).filterMap (λ(m:Nat)=>xs[(((xs.size:Int)-1)+(m:Int)*(-1)).toNat]?)=(Ro xs.size).filterMap (λ m=>xs.toList.reverse[m]?):=by
  refine Gq λ m hm=>?_;have hm:=aD.mp hm;have:(((xs.size:Int)-1)+(m:Int)*(-1)).toNat=xs.size-1-m:=by lia
  rw[this,List.getElem?_reverse (by rw[bx];exact hm),bx,bh]
 rw[e];have h:=Gp xs.toList.reverse;rw[cQ,bx]at h;exact h
theorem sj {t sl:Addr}{items:Array gH}{vk:gH}{Q:gE}(ht:IsTup s.heap t items)(hs:s.heap.IsSliceOf sl .none .none vk)(pk:IsPart vk (My (-1)))(hn:0<items.size)
  (h:Q (.ref s.heap.objs.size) {s with heap:=s.heap.push {cls:=.type "tuple",data:=.seq items.toList.reverse.toArray}}) (hsz:items.size<=sizeLine):wpAny (model prog w) A (getItem (.ref t) (.ref sl)) Q E s:=by
 have htake:sizeOk (.seq items.toList.reverse.toArray):=by show items.toList.reverse.toArray.size<=sizeLine;rw[ao,cQ,bx];lia
 obtain⟨os,hos,hcs,hds⟩:=id hs;have hTs:s.TypeIs (.ref sl) "slice":=⟨os,hos,hcs⟩;unfold getItem;try with_reducible refine bK ?_
 first | refine ae (af ?_) | skip
 refine ae (fM ht.typeIs (by decide) ?_);refine ae (bJ (name:=Str.ofString "__getitem__") ht.typeIs ba
  (bY ba ht.typeIs entry_tuple_getitem ?_ (args_tuple_getitem _ _)))
 show wpAny _ _ (Builtin.Tuple.tupleItemsOf (.ref t)>>=_) _ _ s;refine ae (tupleItemsOf_ ht ?_);refine ae (eR hTs ?_);rw[ai (by decide)];refine ae (tQ hn hs pk ?_);show wpAny _ _ (if ((((items.size:Int)-1)==0&&(-1:Int)==1&&items.size==items.size))=Rm then _ else _) _ _ s;rw[aq (by simp),Gr];first
  | exact ae (m:=Builtin.Tuple.tupleExact _) (bB (af ⟨_,rfl,af h⟩) htake)
  | exact ae (m:=Builtin.Tuple.tupleExact _) (bB (ae (af (af ⟨_,rfl,af h⟩))) htake)
  | exact ae (ae (m:=Builtin.Tuple.tupleExact _) (bB (af (af ⟨_,rfl,af h⟩)) htake))
  | exact ae (ae (m:=Builtin.Tuple.tupleExact _) (bB (af ⟨_,rfl,af h⟩) htake))
end
section
variable {X:Cx}{e k:Expr}{te tk:TE}{pos p2:Pos}
theorem Vals.rev {xs:List V}{us:List gH}(h:Vals xs us):Vals xs.reverse us.reverse:=by
 induction h with
 | nil=>exact .nil
 | cons h t ih =>rw[eY,eY];exact fO ih h
theorem Mb (he:PE X e te)(hk:PE X k tk):PE X (.Subscript e (.Slice Rl Rl (My k) p2) pos) (λ σ H Q=>te σ H λ x H1=>tk σ H1 λ y H2=>y=.int (-1)/\∃ a xs,x=.ref a/\SqT X.K H2 a xs/\xs≠[]/\∀ p,H2 p=Rl->Q (.ref p) (upd H2 p (.tup xs.reverse))):=by
 intro pins s σ H Q I h;refine Subscript_ (thn (he pins s σ H _ I h) λ v s1 hz=>?_);obtain⟨x,H1,I1,r1,q1⟩:=hz;refine wpAny_Slice ?_;rw[evalPart_none];refine af ?_;refine af ?_;rw[evalPart_some];refine thn (hk pins s1 σ H1 _ I1 q1) λ vk s2 hz=>?_;obtain⟨y,H2,I2,r2,rfl,a,xs,rfl,hx,hne,q⟩:=hz;obtain⟨tt,rfl⟩:=r2;cases r1;have I4:Inv X pins σ H2 {s2 with heap:=s2.heap.push {cls:=.type "slice",data:=.fields #[.none,.none,.int (-1) tt]}}:=I2.kept (t':=s2.toks) λ b ob q=>ag _ q;obtain⟨its,r,ht,hz⟩:=I4.tuple hx;have hlen:its.toArray.size=xs.length:=by rw[ao];exact r.length.symm
 have hpos:0<its.toArray.size:=by rw[hlen];exact dD.mpr hne
 show wpAny (model X.prog X.w) X.A (subscriptTail e (.Slice Rl Rl (My k) p2) (.ref a) (.ref s2.heap.objs.size)) (EP X pins σ Q) X.xe {s2 with heap:=s2.heap.push {cls:=.type "slice",data:=.fields #[.none,.none,.int (-1) tt]}};refine tail_any (ops:=[.ref a,.ref s2.heap.objs.size]) ht.typeIs ba.lookup ?_ (by with_unfolding_all rfl);refine sj ht (Heap.IsSliceOf.new ..) (.int _ _) hpos ?_ (by rw[hlen];exact hz);refine⟨.ref _,_,I4.laid (t':=s2.toks) (o:=.tup xs.reverse) (λ b ob q=>ag _ q) (ar _) ?_,rfl,q _ (I4.hok.fresh (ar _))⟩;exact⟨⟨by rw[cQ];exact hz,_,aE _ rfl,rfl⟩,_,r.rev,IsTup.new _ _⟩
def Gs (d:Dt):gF Dt:=(BV d).bind λ ds=>if ds≠[] then My (.tup ds.reverse) else Rl
theorem Iss.rev {K:gG}{H:Hp}{vs:List V}{ds:List Dt}(h:Iss K H vs ds):Iss K H vs.reverse ds.reverse:=by
 induction ds generalizing vs with
 | nil=>cases h;exact .nil
 | cons d r ih =>
  cases h with
  | cons h1 h2 =>rw[eY,eY];exact(ih h2).append (.cons h1 .nil)
theorem Ks {ga:DE->gF Dt}{j:Nat}{p3 p4:Pos}(ha:PD X e ga):PD X (.Subscript e (.Slice Rl Rl (My (.UnaryOp .USub (.Constant (.int 1) j p3) p4)) p2) pos) (gUn Gs ga) :=
 (Mb ha (EG Bk hJ)).of λ σ H Q hz=>by
  obtain⟨δ,d,S,eq,q⟩:=hz;obtain⟨x,e1,f1⟩:=gQ eq;obtain⟨ds,e2,f2⟩:=gQ f1;obtain rfl:=nO e2;by_cases hn:ds≠[]
  ·rw[ai hn]at f2;cases f2;refine⟨δ,_,S,e1,λ v H1 s1 i1=>?_⟩;obtain⟨a,xs,rfl,hx,js⟩:=i1.ip;exact⟨1,rfl,rfl,a,xs,rfl,hx,js.ne hn,λ p hp=>q _ _ (s1.trans (gY.upd hp)) (.tup (SqT.of gW) (js.rev.ext (gY.upd hp)))⟩
  ·rw[aq hn]at f2;cases f2
end
open PySem.SeqAt
section
variable {X:Cx}{pins:gL}{σ:St}{H:Hp}{s:gJ}
theorem D7:∀ (ns ms:List Int),rN (ns.map .int) (ms.map .int)=Rm:=by
 intro ns;induction ns with
 | nil=>intro ms;rfl
 | cons n r ih =>
  intro ms;cases ms with
  | nil=>rfl
  | cons m t=>rw[aS,aS,rN,ih t];rfl
theorem D8:∀ (ns ms:List Int),mi (ns.map .int) (ms.map .int)=decide (ns=ms):=by
 intro ns;induction ns with
 | nil=>intro ms;cases ms<;>simp[mi]
 | cons n r ih =>
  intro ms;cases ms with
  | nil=>simp[mi]
  | cons m t =>rw[aS,aS,mi,ih t,yV,bC];simp
end
end L2
namespace L2
open PySem PySem.Spec PyProof.Rows Zp
section
variable {K:gG}{h:Heap}{mg:gD}{n:Str}(X:K.In h)(G:h.Ns mainGlobals mg)
abbrev clT {dn:List gH}{C:Addr}(a:PySem.W.nsIn K mainGlobals n=My (My (.ref C)))(ex:PySem.W.excIn K C xl "ValueError.__new__"=Rm)(mro:(PySem.W.clsIn K C).map (·.mro)=My (.ref C::(dn++xl))):ClT K mg n dn:=⟨C,a,el X G a,ex,mro⟩
abbrev wtT {C:Addr}(a:PySem.W.nsIn K mainGlobals n=My (My (.ref C)))(ex:PySem.W.excIn K C xl "ValueError.__new__"=Rm)(mro:(PySem.W.clsIn K C).map (·.mro)=My (.ref C::xl))(w1:PySem.W.instIn K (.ref C) (.type "tuple")=My Rn)
 (w2:PySem.W.subIn K (.ref C) (.type "BaseException")=My Rm):WT K mg n:=⟨⟨C,a,el X G a,ex,mro⟩,w1,w2⟩
end
abbrev XD:=Except Str Dt
inductive RX where
 | nx (δ:DE) | rt (d:Dt) | ex (c:Str)
section
variable (K:gG)(C:Str->Addr)(E:XK)
def Mc (Q:VK)(H:Hp):XD->Prop
 | .ok d=>∀ v H',gY H H'->Is K H' v d->Q v H'
 | .error c=>∀ e H',gY H H'->H' e=Rl->E (.ref (C c)) (My e) H'
def Qc (D:Ends)(H:Hp):RX->Prop
 | .nx δ=>∀ σ,Sat K H σ δ->D.nx σ H
 | .rt d=>∀ v,Is K H v d->D.rt v H
 | .ex c=>∀ e,H e=Rl->E (.ref (C c)) (My e) H
def tX (g:DE->gF XD):TE:=λ σ H Q=>∃ δ r,Sat K H σ δ/\g δ=My r/\Mc K C E Q H r
def tXS (g:DE->gF RX):TS:=λ D σ H=>∃ δ r,Sat K H σ δ/\g δ=My r/\∀ H',gY H H'->Qc K C E D H' r
def spX (n:Nat)(f:List Dt->gF XD):Sp:=λ vs H Q E=>∃ ds r,ds.length=n/\Iss K H vs ds/\f ds=My r/\Mc K C E Q H r
end
section
variable (X:Cx)(C:Str->Addr)(E:XK)
abbrev PX (e:Expr)(g:DE->gF XD):Prop:=PE X e (tX X.K C E g)
abbrev PXS (st:Stmt)(g:DE->gF RX):Prop:=PS X st (tXS X.K C E g)
abbrev B6 (st:List Stmt)(g:DE->gF RX):Prop:=PSs X st (tXS X.K C E g)
end
def su (n:Nat)(f:List Dt->gF XD)(gs:DE->gF (List Dt)):DE->gF XD:=λ δ=>(gs δ).bind λ ds=>if ds.length=n then f ds else Rl
def xTr (g:DE->gF XD):DE->gF (Except Str Bool):=λ δ=>(g δ).bind λ r=>match r with
 | .ok d=>(DK d).map .ok
 | .error c=>My (.error c)
def xIf (gc:DE->gF Bool)(g g':DE->gF XD):DE->gF XD:=λ δ=>(gc δ).bind λ k=>if k=Rm then g δ else g' δ
def upX:RD->RX
 | .nx δ=>.nx δ
 | .rt d=>.rt d
def xUp (g:DE->gF RD):DE->gF RX:=λ δ=>(g δ).map upX
def B7 (g g':DE->gF RX):DE->gF RX:=λ δ=>(g δ).bind λ r=>match r with
 | .nx δ'=>g' δ'
 | .rt d=>My (.rt d)
 | .ex c=>My (.ex c)
def vX (g:DE->gF XD):DE->gF RX:=λ δ=>(g δ).map λ r=>match r with
 | .ok _=>.nx δ
 | .error c=>.ex c
def Md (g:DE->gF XD):DE->gF RX:=λ δ=>(g δ).map λ r=>match r with
 | .ok d=>.rt d
 | .error c=>.ex c
def IM (gc:DE->gF Bool)(g g':DE->gF RX):DE->gF RX:=λ δ=>(gc δ).bind λ k=>if k=Rm then g δ else g' δ
section
variable {X:Cx}{C:Str->Addr}{E:XK}{e a b c:Expr}{es:List Expr}{pos p:Pos}{st:Stmt}{sts sa sb:List Stmt}
theorem oG {n:Nat}{f:List Dt->gF XD}{gs:DE->gF (List Dt)}(h:PE X e (jo (spX X.K C n f) [] E (tDs X.K gs))):PX X C E e (su n f gs):=h.of λ σ H Q hz=>by
 obtain⟨δ,r,S,e,q⟩:=hz;obtain⟨ds,e1,e2⟩:=gQ e;by_cases hl:ds.length=n
 ·rw[ai hl]at e2
  refine⟨δ,ds,S,e1,λ vs H1 s1 i1=>?_⟩;show spX X.K C n f (vs++[]) H1 Q E;rw[bt];refine⟨ds,r,hl,i1,e2,?_⟩;cases r with
  | ok d=>exact λ v H2 s2 i2=>q v H2 (s1.trans s2) i2
  | error c=>exact λ e H2 s2 he=>q e H2 (s1.trans s2) he
 ·rw[aq hl]at e2;cases e2
theorem NQ {gc:DE->gF Bool}{g g':DE->gF XD}(hc:PDT X c gc)(ha:PX X C E a g)(hb:PX X C E b g'):PX X C E (.IfExp c a b pos) (xIf gc g g') :=
 (zL hc ha hb).of λ σ H Q hz=>by
  obtain⟨δ,r,S,e,q⟩:=hz;obtain⟨k,e1,e2⟩:=gQ e;refine⟨δ,k,S,e1,λ H1 s1=>?_⟩;have q':Mc X.K C E Q H1 r:=by
   cases r with
   | ok d=>exact λ v H2 s2 i2=>q v H2 (s1.trans s2) i2
   | error c=>exact λ e H2 s2 he=>q e H2 (s1.trans s2) he
  cases k with
  | true=>dsimp only;rw[ai rfl]at e2 ⊢;exact⟨δ,r,S.ext s1,e2,q'⟩
  | false=>dsimp only;rw[aq au]at e2 ⊢;exact⟨δ,r,S.ext s1,e2,q'⟩
theorem Kt {g:DE->gF RD}(h:PDS X st g):PXS X C E st (xUp g):=PS.of h λ D σ H hz=>by
 obtain⟨δ,r,S,e,q⟩:=hz;obtain⟨d,e1,e⟩:=ir e;subst e;refine⟨δ,d,S,e1,λ H1 s1=>?_⟩;have:=q H1 s1;cases d with
 | nx δ'=>exact this
 | rt d=>exact this
theorem Gu {g:DE->gF RD}(h:yS X sts g):B6 X C E sts (xUp g):=PSs.of h λ D σ H hz=>by
 obtain⟨δ,r,S,e,q⟩:=hz;obtain⟨d,e1,e⟩:=ir e;subst e;refine⟨δ,d,S,e1,λ H1 s1=>?_⟩;have:=q H1 s1;cases d with
 | nx δ'=>exact this
 | rt d=>exact this
theorem pU {g g':DE->gF RX}(h1:PXS X C E st g)(h2:B6 X C E sts g'):B6 X C E (st::sts) (B7 g g'):=(g0 h1 h2).of λ D σ H hz=>by
 obtain⟨δ,r,S,e,q⟩:=hz;obtain⟨r1,e1,e⟩:=gQ e;refine⟨δ,r1,S,e1,λ H1 s1=>?_⟩;cases r1 with
 | nx δ'=>exact λ σ' S'=>⟨δ',r,S',e,λ H2 s2=>q H2 (s1.trans s2)⟩
 | rt d=>cases e;exact q H1 s1
 | ex c=>cases e;exact q H1 s1
theorem oH {g:DE->gF RX}(h1:PXS X C E st g):B6 X C E [st] g:=iW h1
theorem sv {g:DE->gF XD}(he:PX X C E e g)(hs:swapsWith e Rl pos.line X.env=pure Rn:=by rfl):PXS X C E (.Expr e pos) (vX g):=(uK he hs).of λ D σ H hz=>by
 obtain⟨δ,r,S,e,q⟩:=hz;obtain⟨d,e1,e⟩:=ir e;subst e;refine⟨δ,d,S,e1,?_⟩;cases d with
 | ok d=>exact λ v H1 s1 i1=>q H1 s1 σ (S.ext s1)
 | error c=>exact λ e H1 s1 he=>q H1 s1 e he
theorem Me {g:DE->gF XD}(he:PX X C E e g):PXS X C E (.Return (My e) pos) (Md g):=(kG he).of λ D σ H hz=>by
 obtain⟨δ,r,S,e,q⟩:=hz;obtain⟨d,e1,e⟩:=ir e;subst e;refine⟨δ,d,S,e1,?_⟩;cases d with
 | ok d=>exact λ v H1 s1 i1=>q H1 s1 v i1
 | error c=>exact λ e H1 s1 he=>q H1 s1 e he
theorem Gv {gc:DE->gF Bool}{g g':DE->gF RX}(hc:PDT X c gc)(ha:B6 X C E sa g)(hb:B6 X C E sb g'):PXS X C E (.If c sa sb pos) (IM gc g g'):=(qy hc ha hb).of λ D σ H hz=>by
 obtain⟨δ,r,S,e,q⟩:=hz;obtain⟨k,e1,e⟩:=gQ e;refine⟨δ,k,S,e1,λ H1 s1=>?_⟩;cases k with
 | true=>rw[ai rfl]at e ⊢;exact⟨δ,r,S.ext s1,e,λ H2 s2=>q H2 (s1.trans s2)⟩
 | false=>rw[aq au]at e ⊢;exact⟨δ,r,S.ext s1,e,λ H2 s2=>q H2 (s1.trans s2)⟩
end
section
variable {P:Program}{w:World}{K:gG}{mg:gD}{base:Heap}{N:List Str}{qual:Str}{scope:Scope}{f:Addr}{cd:gH}{A:Around}{outer:List Env}{s:gJ}{H:Hp}{E:XK}{x:Str}{np cpos pos:Pos}{e0:Expr}{dn:List gH}{C:Str->Addr}
theorem AK {g:DE->gF Dt}(c:ClT K mg x dn)(hC:C x=c.C)(hd:(cxE P w K mg base N qual scope f cd A outer s H E).A.handled=Rl)(ha:PD (cxE P w K mg base N qual scope f cd A outer s H E) e0 g)(hg:Gl (cxE P w K mg base N qual scope f cd A outer s H E) x:=by rfl)(hdb:(x==("__debug__":Str))=Rn:=by decide)
  (he:starEach [e0] (cxE P w K mg base N qual scope f cd A outer s H E).env=[(Rn,eval e0 (cxE P w K mg base N qual scope f cd A outer s H E).env)]:=by rfl) :
  PXS (cxE P w K mg base N qual scope f cd A outer s H E) C E (.Raise (My (.Call (.Name x np) [e0] [] cpos)) Rl pos) (λ δ=>(g δ).map λ _=>.ex x):=(Ge c hd (gP ha g_ he) hg hdb he).of λ D σ H0 hz=>by
 obtain⟨δ,r,S,e,q⟩:=hz;obtain⟨d,e1,e⟩:=ir e;subst e;refine⟨δ,d,S,e1,λ v H1 s1 i1=>⟨by show 1<=sizeLine;decide,λ e he=>?_⟩⟩;rw[<-hC];exact q H1 s1 e he
end
def Qd:RX->XD
 | .nx _=>.ok .non
 | .rt d=>.ok d
 | .ex c=>.error c
def HgX (n:Nat)(N:List Str)(f:List Dt->gF XD)(g:DE->gF RX):Prop:=∀ ds r,ds.length=n->f ds=My r->∃ x,g (qQ N ds)=My x/\Qd x=r
abbrev OkX {K:gG}{mg:gD}{n:Str}{s:Stmt}{ps:List Str}(P:Program)(w:World)(base:Heap)(t:FnT K mg n s ps)(k:Nat)(sp:Sp):Prop:=pE P w K mg base (CXE P w) k t.f t.fd ps sp
theorem FnT.okX {P:Program}{w:World}{base:Heap}{K:gG}{mg:gD}{n:Str}{st:Stmt}{ps N:List Str}{k:Nat}{C:Str->Addr}{fX:List Dt->gF XD}{g:DE->gF RX}(t:FnT K mg n st ps)(S:iI N ps (gZ st))
  (hbody:∀ (cdv:gH) (A:Around) (outer:List Env) (s:gJ) (H:Hp) (E:XK),jt k (A.deeper (envOfC n (gZ st) s.heap.objs.size t.f cdv)) ->
   B6 (cxE P w K mg base N n (gZ st) t.f cdv A outer s H E) C E (iL st) g)
  (hg:HgX ps.length N fX g):OkX P w base t (k+1) (spX K C ps.length fX):=by
 refine t.F.okE S (λ vs H Q E h=>?_) (λ cdv A outer s H vs Q E hr h=>?_)
 ·obtain⟨ds,r,hl,is,_⟩:=h;rw[is.length,hl]
 ·obtain⟨ds,r,hl,is,e,q⟩:=h
  obtain⟨x,e1,e2⟩:=hg ds r hl e;refine⟨_,hbody cdv A outer s H E hr,qQ N ds,x,is.start,e1,λ H' s'=>?_⟩;cases x with
  | nx δ=>subst e2;exact λ σ _=>q _ H' s' .non
  | rt d'=>subst e2;exact λ v iv=>q v H' s' iv
  | ex c=>subst e2;exact λ e he=>q e H' s' he
structure CiT (K:gG)(W C:Addr):Prop where
 ex:PySem.W.excIn K C xl "ValueError.__new__"=Rm
 mro:(PySem.W.clsIn K C).map (·.mro)=My (.ref C::([.ref W]++xl))
 ext:ExT K C
section
variable {K:gG}{mg:gD}{W C D:Addr}
set_option tactic.hygienic true in
theorem IP {l:List gH}{nm:String}(h:PySem.W.excIn K C l nm=Rm):(PySem.W.clsIn K C).isSome=Rm/\PySem.W.typeIn K (.ref C)=My (.type "type"):=by
 unfold PySem.W.excIn at h;split at h
 ·rename_i hl
  constructor
  ·unfold PySem.W.clsIn;rw[hl];rfl
  ·show Option.map (λ x=>x.cls) (List.lookup C K)=_;rw[hl];rfl
 ·cases h
theorem CiT.has (c:CiT K W C)(v:gH):PySem.W.mroIn K C v=My ((.ref C::([.ref W]++xl)).contains v):=by unfold PySem.W.mroIn;obtain⟨cd,h1,h2⟩:=ir c.mro;rw[h1,aB,h2];rfl
theorem CiT.sub (c:CiT K W C):PySem.W.subIn K (.ref C) (.ref W)=My Rm:=by show PySem.W.mroIn K C (.ref W)=_;rw[c.has];simp
theorem CiT.ve (c:CiT K W C):PySem.W.kitOne K (.ref C) (.type "ValueError")=My Rm:=by unfold PySem.W.kitOne;rw[aq (by simp)];show(if PySem.W.kitMeta "ValueError"=Rm then PySem.W.mroIn K C (.type "ValueError") else Rl)=_;rw[ai (by decide +kernel),c.has];simp
theorem CiT.own (c:CiT K W C)(d:CiT K W D)(ne:D≠W):PySem.W.kitOne K (.ref C) (.ref D)=My (decide (C=D)):=by
 unfold PySem.W.kitOne;by_cases e:C=D
 ·subst e;rw[ai (by simp)];simp
 ·rw[aq (by simpa using e)];obtain⟨t1,t2⟩:=IP d.ex;unfold PySem.W.kitCls;dsimp only;rw[t1,t2,ai (by rfl)];show PySem.W.mroIn K C (.ref D)=_;rw[c.has,decide_eq_false e];simp[bj e,ne]
end
structure EcT (K:gG)(mg:gD)(x:Str)(W:Addr) where
 C:Addr
 n:PySem.W.nsIn K mainGlobals x=My (My (.ref C))
 m:mg x=My (.ref C)
 i:CiT K W C
def EcT.cl {K:gG}{mg:gD}{n:Str}{W:Addr}(c:EcT K mg n W):ClT K mg n [.ref W]:=⟨c.C,c.n,c.m,c.i.ex,c.i.mro⟩
abbrev ecT {K:gG}{h:Heap}{mg:gD}{n:Str}{W:Addr}(X:K.In h)(G:h.Ns mainGlobals mg){C:Addr}(a:PySem.W.nsIn K mainGlobals n=My (My (.ref C)))(i:CiT K W C):EcT K mg n W:=⟨C,a,el X G a,i⟩
structure xn (K:gG)(mg:gD) where
 w:WT K mg "WalkError"
 sx:EcT K mg "NoWeb" w.C
 nV:EcT K mg "NoPlace" w.C
 sy:EcT K mg "NoTree" w.C
 uT:EcT K mg "NoTie" w.C
 sA:EcT K mg "NoText" w.C
 oJ:EcT K mg "NoNumber" w.C
 oK:EcT K mg "NoShares" w.C
 uU:EcT K mg "NoTwo" w.C
 oM:EcT K mg "NoStream" w.C
 ql:EcT K mg "NoPaper" w.C
 uV:EcT K mg "Apart" w.C
 qm:EcT K mg "TooMany" w.C
 sC:EcT K mg "NoCode" w.C
 sD:EcT K mg "NoDeed" w.C
 sE:EcT K mg "NoLine" w.C
 nd:[w.C,sx.C,nV.C,sy.C,uT.C,sA.C,oJ.C,oK.C,uU.C,oM.C,ql.C,uV.C,qm.C,sC.C,sD.C,sE.C].Nodup
def vY:List Str:=["NoWeb","NoPlace","NoTree","NoTie","NoText","NoNumber","NoShares","NoTwo","NoStream","NoPaper","Apart","TooMany","NoCode","NoDeed","NoLine"]
def D9:List Str:=["web","place","tree","tie","text","number","shares","two","stream","paper","apart","many","code","deed","line"]
def AL (c:Str):Str:=((vY.zip D9).lookup c).getD "other"
section
variable {K:gG}{mg:gD}(T:xn K mg)
omit T in
theorem B8 {l:List Addr}{i:Nat}(h:i<l.length):l.getD i 0=l[i]:=by rw[aF,aG h];rfl
def xn.ads:List Addr:=[T.sx.C,T.nV.C,T.sy.C,T.uT.C,T.sA.C,T.oJ.C,T.oK.C,T.uU.C,T.oM.C,T.ql.C,T.uV.C,T.qm.C,T.sC.C,T.sD.C,T.sE.C]
def xn.ad (i:Nat):Addr:=T.ads.getD i 0
def xn.C (c:Str):Addr:=((vY.zip T.ads).lookup c).getD 0
theorem xn.ci:∀ i,i<15->CiT K T.w.C (T.ad i)
 | 0,_=>T.sx.i
 | 1,_=>T.nV.i
 | 2,_=>T.sy.i
 | 3,_=>T.uT.i
 | 4,_=>T.sA.i
 | 5,_=>T.oJ.i
 | 6,_=>T.oK.i
 | 7,_=>T.uU.i
 | 8,_=>T.oM.i
 | 9,_=>T.ql.i
 | 10,_=>T.uV.i
 | 11,_=>T.qm.i
 | 12,_=>T.sC.i
 | 13,_=>T.sD.i
 | 14,_=>T.sE.i
 | n+15,h=>absurd h (by lia)
theorem xn.adW:∀ i,i<15->T.ad i≠T.w.C:=λ i hi e=>by
 have:=(bu.mp T.nd).1;have h:T.ads.getD i 0∈T.ads:=by rw[B8 (show i<T.ads.length from hi)];exact dJ _
 have h2:∀ x,x=T.w.C->x∈T.ads->False:=λ x e h=>by subst e;exact this h
 exact h2 _ e h
theorem xn.inj {i j:Nat}(hi:i<15)(hj:j<15):T.ad i=T.ad j↔i=j:=by
 have nd:T.ads.Nodup:=(bu.mp T.nd).2;refine⟨λ e=>?_,λ e=>by rw[e]⟩;have e:T.ads.getD i 0=T.ads.getD j 0:=e;rw[B8 (show i<T.ads.length from hi),B8 (show j<T.ads.length from hj)]at e;have pw:=bM.mp (aI.mp nd);rcases eS i j with l | l | l
 ·exact absurd e (pw i j hi hj l)
 ·exact l
 ·exact absurd e.symm (pw j i hj hi l)
def xn.ck {n:Str}(k:Nat)(e:EcT K mg n T.w.C)(he:e.C=T.ad k)(hk:k<15){i:Nat}(hi:i<15):CkT K mg n (T.ad i) (decide (i=k)):=⟨e.C,e.m,by have:=(T.ci i hi).own e.i (by rw[he];exact T.adW k hk);rw[this,he];congr 1;rw[decide_eq_decide];exact T.inj hi hk⟩
theorem Gw:∀ {c:Str},c∈vY->∃ i,i<15/\vY[i]?=My c:=λ{c} h=>by obtain⟨i,hi,e⟩:=List.mem_iff_getElem.mp h;exact⟨i,hi,by rw[aG hi,e]⟩
theorem Gx:∀ i,i<15->∀ {c:Str},vY[i]?=My c->T.C c=T.ad i/\D9[i]?=My (AL c)
 | 0,_,_,e=>by cases e;exact⟨rfl,rfl⟩
 | 1,_,_,e=>by cases e;exact⟨rfl,rfl⟩
 | 2,_,_,e=>by cases e;exact⟨rfl,rfl⟩
 | 3,_,_,e=>by cases e;exact⟨rfl,rfl⟩
 | 4,_,_,e=>by cases e;exact⟨rfl,rfl⟩
 | 5,_,_,e=>by cases e;exact⟨rfl,rfl⟩
 | 6,_,_,e=>by cases e;exact⟨rfl,rfl⟩
 | 7,_,_,e=>by cases e;exact⟨rfl,rfl⟩
 | 8,_,_,e=>by cases e;exact⟨rfl,rfl⟩
 | 9,_,_,e=>by cases e;exact⟨rfl,rfl⟩
 | 10,_,_,e=>by cases e;exact⟨rfl,rfl⟩
 | 11,_,_,e=>by cases e;exact⟨rfl,rfl⟩
 | 12,_,_,e=>by cases e;exact⟨rfl,rfl⟩
 | 13,_,_,e=>by cases e;exact⟨rfl,rfl⟩
 | 14,_,_,e=>by cases e;exact⟨rfl,rfl⟩
 | n+15,h,_,_=>absurd h (by lia)
theorem Gy:∀ i,i<15->((Ro 15).map λ k=>decide (i=k)).countP id=1/\((Ro 15).map λ k=>decide (i=k)).findIdx? id=My i:=by decide
end
def mz:Dt->gF String
 | .non=>My "NoneType"
 | .bl _=>My "bool"
 | .int _=>My "int"
 | .str _=>My "str"
 | .tup _=>My "tuple"
 | .lst _=>My "list"
 | .dct _=>My "dict"
 | _=>Rl
def mC:List String:=["int","bool","tuple","list","str"]
def zd (k T:String):Bool:=k==T || (k=="bool"&&T=="int")
def Qf (x y:Dt):gF Dt:=(mz x).bind λ k=>(tyD y).bind λ T=>if T∈mC then My (.bl (zd k T)) else Rl
def jX:List Dt->gF Dt:=BU Qf
theorem IQ (K:gG){T:String}(h:T∈mC):PySem.W.kitOne K (.type "int") (.type T)=My (zd "int" T):=by simp only[mC,ax,aN,or_false]at h;rcases h with rfl | rfl | rfl | rfl | rfl<;>rfl
theorem Gz (K:gG){T:String}(h:T∈mC):PySem.W.kitOne K (.type "bool") (.type T)=My (zd "bool" T):=by simp only[mC,ax,aN,or_false]at h;rcases h with rfl | rfl | rfl | rfl | rfl<;>rfl
theorem GA (K:gG){T:String}(h:T∈mC):PySem.W.kitOne K (.type "NoneType") (.type T)=My (zd "NoneType" T):=by simp only[mC,ax,aN,or_false]at h;rcases h with rfl | rfl | rfl | rfl | rfl<;>rfl
theorem IS (K:gG){T:String}(h:T∈mC):PySem.W.kitOne K (.type "str") (.type T)=My (zd "str" T):=by simp only[mC,ax,aN,or_false]at h;rcases h with rfl | rfl | rfl | rfl | rfl<;>rfl
theorem IT (K:gG){T:String}(h:T∈mC):PySem.W.kitOne K (.type "tuple") (.type T)=My (zd "tuple" T):=by simp only[mC,ax,aN,or_false]at h;rcases h with rfl | rfl | rfl | rfl | rfl<;>rfl
theorem IU (K:gG){T:String}(h:T∈mC):PySem.W.kitOne K (.type "list") (.type T)=My (zd "list" T):=by simp only[mC,ax,aN,or_false]at h;rcases h with rfl | rfl | rfl | rfl | rfl<;>rfl
theorem De (K:gG){T:String}(h:T∈mC):PySem.W.kitOne K (.type "dict") (.type T)=My (zd "dict" T):=by simp only[mC,ax,aN,or_false]at h;rcases h with rfl | rfl | rfl | rfl | rfl<;>rfl
section
variable {X:Cx}
theorem ml:jq X (.builtin "isinstance") (cD X.K jX):=by
 intro pins s σ H xs us Q I rs hz;obtain⟨ds,d,is,e,q⟩:=hz;obtain⟨x,y,rfl,e⟩:=nN e;obtain⟨k,e1,e⟩:=gQ e;obtain⟨T,e2,e⟩:=gQ e;by_cases hT:T∈mC
 rotate_left
 ·rw[aq hT]at e;cases e
 rw[ai hT]at e;cases e;obtain⟨v,v',rfl,i1,i2⟩:=is.two;rw[Ik e2]at i2;rw[i2.BO]at rs;obtain⟨u,u',rfl,r1,r2⟩:=vals2 rs;cases r2;have fin:∀ {t:gH} {Hh:Heap->Prop},PySem.W.KitX X.K u t Hh->Hh s.heap->PySem.W.kitOne X.K t (.type T)=My (zd k T)->u≠Value.builtin "__main__.__loader__#opaque"->wpAny (model X.prog X.w) X.A (call (.builtin "isinstance") [u,.type T]) (λ u s'=>∃ v H',Inv X pins σ H' s'/\RelV v u/\Q v H') X.xe s:=λ kx hh hk hn =>gn kx I.kIn hh hk hn λ tk=>⟨.bl _,H,I.tok _,rfl,q _ H (gY.refl H) (.bl _)⟩
 match x,e1,i1 with
 | .non,e1,i1 =>cases e1;rw[i1.ow]at r1;cases r1;exact fin PySem.W.kitx_none trivial (GA _ hT) (λ z=>nomatch z)
 | .bl b,e1,i1 =>cases e1;rw[i1.jk]at r1;cases r1;exact fin PySem.W.kitx_bool trivial (Gz _ hT) (λ z=>nomatch z)
 | .int b,e1,i1 =>cases e1;rw[i1.int_inv]at r1;obtain⟨t,rfl⟩:=r1;exact fin PySem.W.kitx_int trivial (IQ _ hT) (λ z=>nomatch z)
 | .str b,e1,i1 =>cases e1;rw[i1.str_inv]at r1;obtain⟨t,rfl⟩:=r1;exact fin PySem.W.kitx_str trivial (IS _ hT) (λ z=>nomatch z)
 | .tup b,e1,i1 =>cases e1;obtain⟨a,ys,rfl,ha,js⟩:=i1.ip;cases r1;obtain⟨its,_,⟨o,ho,hc,_⟩,_⟩:=I.tuple ha;exact fin PySem.W.kitx_tuple ⟨o,ho,hc⟩ (IT _ hT) (λ z=>nomatch z)
 | .lst b,e1,i1 =>cases e1;obtain⟨a,ys,rfl,ha,js⟩:=i1.lst_inv;cases r1;obtain⟨its,_,hh,_⟩:=I.list (SqL.of ha);obtain⟨o,ho,hc,_⟩:=hh.isList;exact fin PySem.W.kitx_list ⟨o,ho,hc⟩ (IU _ hT) (λ z=>nomatch z)
 | .dct b,e1,i1 =>cases e1;obtain⟨a,rfl,ha⟩:=i1.ou;cases r1;have ok:=ha.ok I.hok;obtain⟨_,_,_,_,o,_,_,ho,hc,_⟩:=ok;exact fin PySem.W.kitx_dict ⟨o,ho,hc.1⟩ (De _ hT) (λ z=>nomatch z)
end
mutual
def toPy:Dt->PyData
 | .bl b=>.bool b
 | .int i=>.int i
 | .str x=>.str x
 | .tup ds=>.tuple (lG ds)
 | .lst ds=>.list (lG ds)
 | _=>.none
def lG:List Dt->List PyData
 | []=>[]
 | d::r=>toPy d::lG r
end
mutual
def plD:Dt->Bool
 | .ty _=>Rn
 | .opq _=>Rn
 | .dct _=>Rn
 | .tup ds=>xo ds
 | .lst ds=>xo ds
 | _=>Rm
def xo:List Dt->Bool
 | []=>Rm
 | d::r=>plD d&&xo r
end
def qw (d:Dt):Bool:=plD d&&((toPy d).showable&&(decide ((toPy d).shown.length<=sizeLine)&&decide ((toPy d).depth<=40)))
def rpS (d:Dt):Str:=(toPy d).shown
def qD:List Dt->gF Dt:=tN λ d=>if qw d=Rm then My (.str (rpS d)) else Rl
mutual
theorem noDict:∀ d:Dt,(toPy d).hasDict=Rn
 | .tup ds=>by rw[toPy,PyData.hasDict.eq_6];exact noDicts ds
 | .lst ds=>by rw[toPy,PyData.hasDict.eq_5];exact noDicts ds
 | .non=>rfl
 | .bl _=>rfl
 | .int _=>rfl
 | .str _=>rfl
 | .ty _=>rfl
 | .opq _=>rfl
 | .dct _=>rfl
theorem noDicts:∀ ds:List Dt,PyData.hasDictAll (lG ds)=Rn
 | []=>rfl
 | d::r=>by rw[lG,PyData.hasDictAll,noDict d,noDicts r];rfl
end
section
variable {X:Cx}{pins:gL}{s:gJ}{σ:St}{H:Hp}
mutual
theorem AM (I:Inv X pins σ H s):∀ (d:Dt) {v:V} {u:gH},Is X.K H v d->plD d=Rm->RelV v u->∃ as,Reads s.heap u (toPy d) as
 | .non,v,u,i,_,r=>by rw[i.ow]at r;cases r;exact⟨_,.none⟩
 | .bl b,v,u,i,_,r=>by rw[i.jk]at r;cases r;exact⟨_,.bool b⟩
 | .int b,v,u,i,_,r=>by rw[i.int_inv]at r;obtain⟨t,rfl⟩:=r;exact⟨_,.int b t⟩
 | .str b,v,u,i,_,r=>by rw[i.str_inv]at r;obtain⟨t,rfl⟩:=r;exact⟨_,.str b t⟩
 | .tup ds,v,u,i,p,r=>by obtain⟨a,xs,rfl,ha,js⟩:=i.ip;cases r;obtain⟨its,rv,⟨o,ho,hc,n,hd⟩,_⟩:=I.tuple ha;obtain⟨as,ra⟩:=tR I ds js (by rw[plD]at p;exact p) rv;exact⟨as,.tuple ho hc hd (by simpa using ra)⟩
 | .lst ds,v,u,i,p,r=>by obtain⟨a,xs,rfl,ha,js⟩:=i.lst_inv;cases r;obtain⟨its,rv,hh,_⟩:=I.list (SqL.of ha);obtain⟨o,ho,hc,n,hd⟩:=hh.isList;obtain⟨as,ra⟩:=tR I ds js (by rw[plD]at p;exact p) rv;exact⟨_,.list ho hc hd (by simpa using ra)⟩
 | .ty _,_,_,_,p,_=>by rw[plD]at p;cases p
 | .opq _,_,_,_,p,_=>by rw[plD]at p;cases p
 | .dct _,_,_,_,p,_=>by rw[plD]at p;cases p
theorem tR (I:Inv X pins σ H s):∀ (ds:List Dt) {xs:List V} {us:List gH},Iss X.K H xs ds->xo ds=Rm->Vals xs us->∃ as,ReadsAll s.heap us (lG ds) as
 | [],xs,us,i,_,r=>by cases i;cases r;exact⟨_,.nil⟩
 | d::ds,xs,us,i,p,r=>by
  cases i with
  | cons i1 i2 =>
   cases r with
   | cons r1 r2 =>rw[xo,aU]at p;obtain⟨as,h1⟩:=AM I d i1 p.1 r1;obtain⟨bs,h2⟩:=tR I ds i2 p.2 r2;exact⟨_,.cons h1 h2⟩
end
theorem tS (hg:X.A.guards=My [])(hu:X.A.units+64<cLine):jq X (.builtin "repr") (cD X.K qD):=by
 intro pins s σ H xs us Q I rs hz;obtain⟨ds,d,is,e,q⟩:=hz;obtain⟨x,rfl,e1⟩:=kf e;clear e;by_cases hp:qw x=Rm
 rotate_left
 ·rw[aq hp]at e1;cases e1
 rw[ai hp]at e1;cases e1;obtain⟨v,rfl,i1⟩:=is.one;obtain⟨u,rfl,r1⟩:=vals1 rs;unfold qw at hp;simp only[aU,decide_eq_true_eq]at hp;obtain⟨p1,p2,p3,p4⟩:=hp;obtain⟨as,ra⟩:=AM I x i1 p1 r1;have nd:=noDict x;have fin:∀ (t:Tok) (h':Heap) (tk:Nat),(∀ b o,s.heap.get? b=My o->h'.get? b=My o)->∃ v H',Inv X pins σ H' {s with heap:=h',toks:=tk}/\RelV v (.str (toPy x).shown t)/\Q v H':=λ t h' tk hk =>⟨.str (rpS x),H,I.kept hk,⟨t,rfl⟩,q _ H (gY.refl H) (.str _)⟩
 generalize toPy x=py at *;have ref:∀ {a:Addr},u=.ref a->wpAny (model X.prog X.w) X.A (call (.builtin "repr") [u]) (EP X pins σ Q) X.xe s:=λ{a} e=>by subst e;exact repr_of_reads' ra p2 (λ z=>by rw[nd]at z;cases z) hg (by lia) (λ _ _ h=>h) (λ h' t tk hk=>fin t h' tk hk) p3
 cases ra with
 | none=>exact P.repr_of_none (fin _ _ _ λ _ _ h=>h)
 | bool b=>exact P.repr_of_bool (fin _ _ _ λ _ _ h=>h)
 | int i t=>exact P.repr_of_int (by simpa [PyData.showable] using p2) (fin _ _ _ λ _ _ h=>h)
 | str y t=>exact P.repr_of_str (fin _ _ _ λ _ _ h=>h) p3
 | list _ _ _ _=>exact ref rfl
 | tuple _ _ _ _=>exact ref rfl
 | dict _ _ _ _ _=>exact ref rfl
end
open Qs
def whB:Dt->Bool
 | .int _=>Rm
 | _=>Rn
def jO:List Dt->gF Dt:=tN λ x=>(mz x).map λ _=>.bl (whB x)
def mG (n:Int):Dt->Bool
 | .int i=>decide (0<=i/\i<n)
 | _=>Rn
def lg:List Dt->gF Dt:=BU λ m x=>(uB m).bind λ n=>(mz x).map λ _=>.bl (mG n x)
def jw (n:Int):Dt->Bool
 | .tup [.int a,.int b]=>decide (0<=a/\a<b/\b<n)
 | _=>Rn
def kdB (d:Dt):Bool:=(mz d).isSome
def kT:Dt->Bool
 | .tup ds=>ds.all kdB
 | d=>kdB d
def lP:List Dt->gF Dt:=BU λ m x=>(uB m).bind λ n=>if kT x=Rm then My (.bl (jw n x)) else Rl
def iR:Dt->Nat×Nat
 | .tup [.int a,.int b]=>(a.toNat,b.toNat)
 | _=>(0,0)
def ju:Dt->Bool
 | .tup [.int n,.tup ts]=>decide (2<=n/\n<=8)&&(ts.all (jw n)&&(rise (ts.map iR)&&decide (((bfs (ts.map iR) 0).length:Int)=n)))
 | _=>Rn
def okW:Dt->Bool
 | .tup [m,.tup ts]=>kdB m&&(decide (ts.length<=1000)&&ts.all kT)
 | .tup ds=>ds.all kdB
 | d=>kdB d
def i8:List Dt->gF Dt:=tN λ x=>if okW x=Rm then My (.bl (ju x)) else Rl
def pV:DE->gF RD:=(kN (yM (iU jX (gN (gS 0) (gN (gC (.ty "int")) gR))) (Ls (iU jX (gN (gS 0) (gN (gC (.ty "bool")) gR))))))
abbrev AN:List Str:=["thing"]
def lZ:DE->gF RD:=(kN (yM (iq 1 jO (gN (gS 1) gR)) (pK (dIB λ i j=>decide (i<=j)) (dIB λ i j=>decide (i<j)) (gC (.int 0)) (gS 1) (gS 0))))
abbrev AO:List Str:=["many","thing"]
def lh:DE->gF RD:=(kM (oy (nK (j9 (gTr (iU jX (gN (gS 1) (gN (gC (.ty "tuple")) gR))))) (gB (hU oA (iU qv (gN (gS 1) gR)) (gC (.int 2))))) (kN (gC (.bl Rn))) kZ) (kM (Ai (nM 2 3) (gS 1)) (kN (yM (iq 2 lg (gN (gS 0) (gN (gS 2) gR))) (yM (iq 2 lg (gN (gS 0) (gN (gS 3) gR))) (hU (dIB λ i j=>decide (i<j)) (gS 2) (gS 3)))))))
abbrev D_:List Str:=["many","thing","a","b"]
def jy:DE->gF RD:=(kM (oy (nK (j9 (gTr (iU jX (gN (gS 0) (gN (gC (.ty "tuple")) gR))))) (gB (hU oA (iU qv (gN (gS 0) gR)) (gC (.int 2))))) (kN (gC (.bl Rn))) kZ) (kM (Ai (nM 1 2) (gS 0)) (kM (oy (nK (j9 (gTr (iq 1 jO (gN (gS 1) gR)))) (j9 (gB (pK (dIB λ i j=>decide (i<=j)) (dIB λ i j=>decide (i<=j)) (gC (.int 2)) (gS 1) (gC (.int 8)))))) (kN (gC (.bl Rn))) kZ) (kM (oy (nK (j9 (gTr (iU jX (gN (gS 2) (gN (gC (.ty "tuple")) gR))))) (j9 (gTr (iU uC (gN (gLC ["tie"] [1] (gI k_ (gS 2)) (ggN 0) jU (iq 2 lP (gN (gS 1) (gN (gS 0) gR)))) gR))))) (kN (gC (.bl Rn))) kZ) (kN (yM (iq 1 lE (gN (gS 2) gR)) (hU rP (iU Ao (gN (iq 2 kg (gN (gS 2) (gN (gC (.int 0)) gR))) gR)) (gS 1))))))))
abbrev Ea:List Str:=["thing","many","ties"]
theorem sF:Hg 1 AN jO pV:=by
 intro ds d hl h;obtain⟨x,rfl,h⟩:=kf h;obtain⟨k,e,h⟩:=ir h;subst h;refine⟨.rt (.bl (whB x)),?_,rfl⟩;cases x<;>first | (cases e;done) | skip
 all_goals rfl
set_option tactic.hygienic true in
theorem ze:Hg 2 AO lg lZ:=by
 intro ds d hl h;obtain⟨m,x,rfl,h1⟩:=nN h;obtain⟨n,e0,h2⟩:=gQ h1;obtain⟨k,e,h3⟩:=ir h2;subst h3;clear h h1 h2;rw[lX e0];refine⟨.rt (.bl (mG n x)),?_,rfl⟩;cases x<;>first | (cases e;done) | skip
 case int =>
  rename_i i;show lZ [My (.int n),My (.int i)]=_;have w:jO [.int i]=My (.bl Rm):=rfl;by_cases c:0<=i
  ·by_cases c2:i<n<;>simp[lZ,w,mG,c,c2]
  ·simp[lZ,w,mG,c]
 all_goals rfl
theorem pW {d:Dt}(h:kdB d=Rm):∃ k,mz d=My k:=dz.mp h
theorem B9 (n:Int){d:Dt}(h:kdB d=Rm):lg [.int n,d]=My (.bl (mG n d)):=by obtain⟨k,e⟩:=pW h;show((mz d).map λ _=>Dt.bl (mG n d))=_;rw[e];rfl
set_option tactic.hygienic true in
theorem B_:Hg 2 D_ lP lh:=by
 intro ds d hl h;obtain⟨m,x,rfl,h1⟩:=nN h;obtain⟨n,e0,h2⟩:=gQ h1;clear h h1;by_cases hx:kT x=Rm
 rotate_left
 ·rw[aq hx]at h2;cases h2
 rw[ai hx]at h2;cases h2;rw[lX e0];refine⟨.rt (.bl (jw n x)),?_,rfl⟩;match x,hx with
 | .tup [a,b],hx =>
  have ka:kdB a=Rm:=by simp[kT]at hx;exact hx.1
  have kb:kdB b=Rm:=by simp[kT]at hx;exact hx.2
  have pa:=B9 n ka;have pb:=B9 n kb;have iT:jX [.tup [a,b],.ty "tuple"]=My (.bl Rm):=rfl;have ln:qv [.tup [a,b]]=My (.int 2):=rfl;show lh [My (.int n),My (.tup [a,b]),Rl,Rl]=_;by_cases c1:mG n a=Rm
  ·by_cases c2:mG n b=Rm
   ·cases a<;>first | (cases c1;done) | skip
    cases b<;>first | (cases c2;done) | skip
    rename_i i j;rw[c1]at pa;rw[c2]at pb;simp only[mG,decide_eq_true_eq]at c1 c2;have e:decide (i<j)=decide (0<=i/\i<j/\j<n):=by rw[decide_eq_decide];lia
    simp[lh,iT,ln,pa,pb,jw];simpa using e
   ·have e:jw n (.tup [a,b])=Rn:=by
     cases a<;>first | rfl | skip
     cases b<;>first | rfl | skip
     rename_i i j;simp only[mG,decide_eq_true_eq]at c1 c2;simp only[jw,decide_eq_false_iff_not];lia
    rw[c1]at pa;rw[bw]at c2;rw[c2]at pb;rw[e];simp[lh,iT,ln,pa,pb]
  ·have e:jw n (.tup [a,b])=Rn:=by
    cases a<;>first | rfl | skip
    cases b<;>first | rfl | skip
    rename_i i j;simp only[mG,decide_eq_true_eq]at c1;simp only[jw,decide_eq_false_iff_not];lia
   rw[bw]at c1;rw[c1]at pa;rw[e];simp[lh,iT,ln,pa]
 | .tup [],_=>rfl
 | .tup [a],_=>cases a<;>rfl
 | .tup (a::b::c::r),hx =>
  have iT:jX [.tup (a::b::c::r),.ty "tuple"]=My (.bl Rm):=rfl;have ln:qv [.tup (a::b::c::r)]=My (.int ((r.length:Int)+3)):=by show My (Dt.int (((a::b::c::r).length:Nat):Int))=_;simp;lia
  have ne:¬ ((r.length:Int)+3=2):=by lia
  have e:jw n (.tup (a::b::c::r))=Rn:=by cases a<;>first | rfl | (cases b<;>rfl)
  rw[e];show lh [My (.int n),My (.tup (a::b::c::r)),Rl,Rl]=_;generalize (r.length:Int)+3=z,Dt.tup (a::b::c::r)=t at *;simp[lh,iT,ln,ne]
 | .non,_=>rfl
 | .bl _,_=>rfl
 | .int _,_=>rfl
 | .str _,_=>rfl
 | .lst _,_=>rfl
 | .dct _,_=>rfl
theorem GB (n:Int){d:Dt}(h:kT d=Rm):lP [.int n,d]=My (.bl (jw n d)):=by show(if kT d=Rm then My (Dt.bl (jw n d)) else Rl)=_;rw[ai h]
set_option tactic.hygienic true in
theorem Df {n:Int}{d:Dt}(h:jw n d=Rm):d=g6 (iR d)/\(iR d).1<(iR d).2/\((iR d).2:Int)<n:=by
 unfold jw at h;split at h
 ·rename_i a b
  simp only[decide_eq_true_eq]at h;obtain⟨h1,h2,h3⟩:=h;have e1:((a.toNat:Nat):Int)=a:=by lia
  have e2:((b.toNat:Nat):Int)=b:=by lia
  refine⟨?_,?_,?_⟩
  ·show Dt.tup [.int a,.int b]=.tup [.int ((a.toNat:Nat):Int),.int ((b.toNat:Nat):Int)];rw[e1,e2]
  ·show a.toNat<b.toNat;lia
  ·show((b.toNat:Nat):Int)<n;lia
 ·cases h
theorem vZ {n:Int}{ts:List Dt}(h:ts.all (jw n)=Rm):ts=(ts.map iR).map g6/\∀ p∈ts.map iR,p.1<p.2/\(p.2:Int)<n:=by
 rw[bN]at h;refine⟨?_,λ p hp=>?_⟩
 ·rw[bq]
  conv=>lhs;rw[<-cT ts]
  exact cm λ d hd=>(Df (h d hd)).1
 ·obtain⟨d,hd,rfl⟩:=aA.mp hp;exact(Df (h d hd)).2
theorem AQ {l:gK}{n:Nat}(hr:rise l=Rm)(ok:∀ p∈l,p.1<p.2/\p.2<n)(h8:n<=8):l.length<=28:=by refine pairs_len (n:=n) ?_ ok h8;rw[aI];refine(mF hr).imp λ{a b} h e=>?_;subst e;rw[kO]at h;lia
theorem Qg (l:gK)(h:l.length<=1000):lE [iJ l]=My (.bl (rise l)):=by show(dTt (iJ l)).bind (λ l=>if l.length<=1000 then My (Dt.bl (rise l)) else Rl)=_;rw[uR,aB,ai h]
theorem Qh {l:gK}(h:l.length<=30)(k:Nat):kg [iJ l,gO k]=My (.dct (jK (bfs l k))):=by show(dTs (iJ l)).bind (λ l=>(lY (gO k)).bind λ p=>if l.length<=30 then My (Dt.dct (jK (bfs l p))) else Rl)=_;rw[uS,jW,aB,aB,ai h]
theorem Ca:Hg 1 Ea i8 jy:=by
 intro ds d hl h;obtain⟨x,rfl,h1⟩:=kf h;clear h;by_cases hx:okW x=Rm
 rotate_left
 ·rw[aq hx]at h1;cases h1
 rw[ai hx]at h1;cases h1;refine⟨.rt (.bl (ju x)),?_,rfl⟩;match x,hx with
 | .tup [m,t],hx =>
  show jy [My (.tup [m,t]),Rl,Rl]=_;have iT:jX [.tup [m,t],.ty "tuple"]=My (.bl Rm):=rfl;have ln:qv [.tup [m,t]]=My (.int 2):=rfl;have km:kdB m=Rm/\kdB t=Rm:=by cases t<;>simp_all[okW,kdB,mz]
  obtain⟨k1,ek⟩:=pW km.1;obtain⟨k2,ek2⟩:=pW km.2;have wm:jO [m]=My (.bl (whB m)):=by show((mz m).map λ _=>Dt.bl (whB m))=_;rw[ek];rfl
  by_cases c1:whB m=Rm
  rotate_left
  ·have e:ju (.tup [m,t])=Rn:=by cases m<;>first | rfl | (exact absurd rfl c1)
   rw[bw]at c1;rw[c1]at wm;rw[e];simp[jy,iT,ln,wm]
  rw[c1]at wm;obtain⟨n,rfl⟩:∃ n,m=.int n:=by cases m<;>first | exact⟨_,rfl⟩ | cases c1
  by_cases c2:2<=n/\n<=8
  rotate_left
  ·have e:ju (.tup [.int n,t])=Rn:=by
    cases t<;>first | rfl | (simp[ju,c2])
   rw[e];by_cases c3:2<=n
   ·have c4:¬ n<=8:=λ z=>c2 ⟨c3,z⟩;simp[jy,iT,ln,wm,c3,c4]
   ·simp[jy,iT,ln,wm,c3]
  obtain⟨h2,h8⟩:=c2;by_cases c3:∃ ts,t=.tup ts
  rotate_left
  ·have e:ju (.tup [.int n,t])=Rn:=by
    cases t<;>first | rfl | (exact absurd ⟨_,rfl⟩ c3)
   have iF:jX [t,.ty "tuple"]=My (.bl Rn):=by cases t<;>first | rfl | (exact absurd ⟨_,rfl⟩ c3) | cases ek2
   rw[e];simp[jy,iT,ln,wm,h2,h8,iF]
  obtain⟨ts,rfl⟩:=c3;have ok:ts.length<=1000/\ts.all kT=Rm:=by simpa [okW,kdB,mz] using hx
  obtain⟨hlen,hk⟩:=ok;rw[bN]at hk;have iT2:jX [.tup ts,.ty "tuple"]=My (.bl Rm):=rfl;have lc:=rV (enc:=id) (gg:=ggN 0) (ge:=iq 2 lP (gN (gS 1) (gN (gS 0) gR))) (δc:=[Rl,My (.int n)]) (δa:=λ d=>[My d,My (.int n)]) (enc':=λ d=>.bl (jw n d)) ts λ d hd=>⟨rfl,by have:=GB n (hk d hd);simp[this]⟩
  have e2:(ts.map λ d=>Dt.bl (jw n d))=(ts.map (jw n)).map Dt.bl:=by simp
  rw[cT,e2]at lc;have e3:(ts.map (jw n)).all id=ts.all (jw n):=by rw[eV];rfl
  have al:uC [.lst ((ts.map (jw n)).map Dt.bl)]=My (.bl (ts.all (jw n))):=by rw[<-e3];generalize ts.map (jw n)=bs;simp[uC,qR]
  by_cases c4:ts.all (jw n)=Rm
  rotate_left
  ·have e:ju (.tup [.int n,.tup ts])=Rn:=by
    rw[bw]at c4;simp[ju,c4]
   rw[bw]at c4;rw[c4]at al;rw[e];generalize (ts.map (jw n)).map Dt.bl=bs at *;simp[jy,iT,ln,wm,h2,h8,iT2,lc,al,hlen]
  rw[c4]at al;obtain⟨et,ok⟩:=vZ c4;have ri:=Qg (ts.map iR) (by rw[ah];exact hlen);have et':iJ (ts.map iR)=.tup ts:=by show Dt.tup ((ts.map iR).map g6)=_;rw[<-et]
  rw[et']at ri;by_cases c5:rise (ts.map iR)=Rm
  rotate_left
  ·have e:ju (.tup [.int n,.tup ts])=Rn:=by
    rw[bw]at c5;simp[ju,c5]
   rw[bw]at c5;rw[c5]at ri;rw[e];generalize (ts.map (jw n)).map Dt.bl=bs at *;simp[jy,iT,ln,wm,h2,h8,iT2,lc,al,hlen,ri]
  have le:=AQ (n:=n.toNat) c5 (λ p hp=>by have:=ok p hp;lia) (by lia);have di:=Qh (l:=ts.map iR) (by lia) 0;rw[et']at di;have e7:(jK (bfs (ts.map iR) 0)).length=(bfs (ts.map iR) 0).length:=by rw[jK,ah]
  have e:ju (.tup [.int n,.tup ts])=decide (((bfs (ts.map iR) 0).length:Int)=n):=by simp[ju,c4,c5,h2,h8]
  rw[c5]at ri;rw[e];have ld:Ao [.dct (jK (bfs (ts.map iR) 0))]=My (.int ((bfs (ts.map iR) 0).length:Nat)):=by rw[<-e7];rfl
  generalize Dt.dct (jK (bfs (ts.map iR) 0))=dd,(((bfs (ts.map iR) 0).length:Nat):Int)=z,(ts.map (jw n)).map Dt.bl=bs at *;have di:kg [.tup ts,.int 0]=My dd:=di;have eq:rP (.int z) (.int n)=My (.bl (decide (z=n))):=by show My (Dt.bl (z==n))=_;congr 2
  simp[jy,iT,ln,wm,h2,h8,iT2,lc,al,hlen,ri,di,ld,eq]
 | .tup [],_=>rfl
 | .tup [a],_=>cases a<;>rfl
 | .tup (a::b::c::r),hx =>
  have iT:jX [.tup (a::b::c::r),.ty "tuple"]=My (.bl Rm):=rfl;have ln:qv [.tup (a::b::c::r)]=My (.int ((r.length:Int)+3)):=by show My (Dt.int (((a::b::c::r).length:Nat):Int))=_;simp;lia
  have ne:¬ ((r.length:Int)+3=2):=by lia
  have e:ju (.tup (a::b::c::r))=Rn:=by cases a<;>first | rfl | (cases b<;>rfl)
  rw[e];show jy [My (.tup (a::b::c::r)),Rl,Rl]=_;generalize (r.length:Int)+3=z,Dt.tup (a::b::c::r)=t at *;simp[jy,iT,ln,ne]
 | .non,_=>rfl
 | .bl _,_=>rfl
 | .int _,_=>rfl
 | .str _,_=>rfl
 | .lst _,_=>rfl
 | .dct _,_=>rfl
section
variable {g g':DE->gF RX}{δ:DE}{gx gx':DE->gF XD}{gs:DE->gF (List Dt)}{gd:DE->gF Dt}{gr:DE->gF RD}{gb:DE->gF Bool}{gt:DE->gF (Except Str Bool)}{n i:Nat}{f:List Dt->gF XD}
@[simp] theorem Pe:su n f gs δ=(gs δ).bind λ ds=>if ds.length=n then f ds else Rl:=rfl
@[simp] theorem Q3:xTr gx δ=(gx δ).bind λ r=>match r with | .ok d=>(DK d).map .ok | .error c=>My (.error c):=rfl
@[simp] theorem Q4:xIf gb gx gx' δ=(gb δ).bind λ k=>if k=Rm then gx δ else gx' δ:=rfl
@[simp] theorem Q5:xUp gr δ=(gr δ).map upX:=rfl
@[simp] theorem Q6 (d:DE):upX (.nx d)=.nx d:=rfl
@[simp] theorem Q7 (d:Dt):upX (.rt d)=.rt d:=rfl
@[simp] theorem Qi:B7 g g' δ=(g δ).bind λ r=>match r with | .nx δ'=>g' δ' | .rt d=>My (.rt d) | .ex c=>My (.ex c):=rfl
@[simp] theorem Pf:vX gx δ=(gx δ).map λ r=>match r with | .ok _=>.nx δ | .error c=>.ex c:=rfl
@[simp] theorem Qj:Md gx δ=(gx δ).map λ r=>match r with | .ok d=>.rt d | .error c=>.ex c:=rfl
@[simp] theorem Qk:IM gb g g' δ=(gb δ).bind λ k=>if k=Rm then g δ else g' δ:=rfl
end
def xR (c:Str)(g:DE->gF Dt):DE->gF RX:=λ δ=>(g δ).map λ _=>.ex c
@[simp] theorem Rk (c:Str) (g:DE->gF Dt) (δ:DE):xR c g δ=(g δ).map λ _=>.ex c:=rfl
theorem IV {w:Web}(g:Good w):ju (iP w)=Rm:=by
 have h2:=g.two;have h8:=g.nQ;have ha:(w.2.map g6).all (jw w.1)=Rm:=by rw[bN];intro d hd;obtain⟨t,ht,rfl⟩:=aA.mp hd;have:=g.ok t ht;show decide (0<=(t.1:Int)/\(t.1:Int)<t.2/\(t.2:Int)<w.1)=Rm;rw[decide_eq_true_eq];lia
 have hp:(w.2.map g6).map iR=w.2:=by
  rw[bq];conv=>rhs;rw[<-cT w.2]
  exact cm λ t _=>by show((t.1:Int).toNat,(t.2:Int).toNat)=t;simp
 show(decide (2<=(w.1:Int)/\(w.1:Int)<=8)&&((w.2.map g6).all (jw w.1)&&(rise ((w.2.map g6).map iR)&&decide (((bfs ((w.2.map g6).map iR) 0).length:Int)=w.1))))=Rm;rw[ha,hp,g.rise,g.all,decide_eq_true (by lia)];simp
set_option tactic.hygienic true in
theorem zh (x:Dt):ju x=(dW x).isSome:=by
 cases e:dW x with
 | some w =>obtain⟨rfl,g⟩:=vN e;exact IV g
 | none =>
  show ju x=Rn;rw[<-bw];intro h;unfold ju at h;split at h
  ·rename_i n ts
   simp only[aU,decide_eq_true_eq]at h;obtain⟨⟨h2,h8⟩,ha,hr,hb⟩:=h;obtain⟨et,ok⟩:=vZ ha;have le:=AQ (n:=n.toNat) hr (λ p hp=>by have:=ok p hp;lia) (by lia);have g:Good (n.toNat,ts.map iR):=by
    refine⟨by show 2<=n.toNat;lia,by show n.toNat<=8;lia,λ p hp=>by have:=ok p hp;show p.1<p.2/\p.2<n.toNat;lia,hr,by show(bfs (ts.map iR) 0).length=n.toNat;lia,by show(ts.map iR).length<=30;lia,λ z=>?_⟩;have z:ts.map iR=[]:=z;rw[z]at hb;have b0:(bfs ([]:gK) 0).length=1:=by decide +kernel
    rw[b0]at hb;lia
   have ex:Dt.tup [.int n,.tup ts]=iP (n.toNat,ts.map iR):=by show _=Dt.tup [.int ((n.toNat:Nat):Int),.tup ((ts.map iR).map g6)];rw[<-et,show((n.toNat:Nat):Int)=n by lia]
   rw[ex,qS g]at e;cases e
  ·cases h
def xW (x:Dt):Except Str Web:=match dW x with
 | some w=>.ok w
 | none=>.error "NoWeb"
def Ql:Dt->Nat
 | .int i=>i.toNat
 | _=>0
def xP (w:Web)(x:Dt):Except Str Nat:=if mG w.1 x=Rm then .ok (Ql x) else .error "NoPlace"
set_option tactic.hygienic true in
theorem Ku {x:Dt}{w:Web}(h:xW x=.ok w):x=iP w/\Good w:=by
 unfold xW at h;split at h
 ·rename_i w' e;cases h;exact vN e
 ·cases h
theorem v8 {w:Web}(g:Good w):xW (iP w)=.ok w:=by unfold xW;rw[qS g]
set_option tactic.hygienic true in
theorem GC {w:Web}{x:Dt}{a:Nat}(h:xP w x=.ok a):x=gO a/\a<w.1:=by
 unfold xP at h;by_cases c:mG w.1 x=Rm
 ·rw[ai c]at h
  cases h;unfold mG at c;split at c
  ·rename_i i
   rw[decide_eq_true_eq]at c;constructor
   ·show Dt.int i=.int ((i.toNat:Nat):Int);rw[show((i.toNat:Nat):Int)=i by lia]
   ·show i.toNat<w.1;lia
  ·cases c
 ·rw[aq c]at h;cases h
theorem zi {w:Web}{a:Nat}(h:a<w.1):xP w (gO a)=.ok a:=by
 unfold xP;have c:mG (w.1:Int) (gO a)=Rm:=by show decide (0<=(a:Int)/\(a:Int)<(w.1:Int))=Rm;rw[decide_eq_true_eq];lia
 rw[ai c];show Except.ok (a:Int).toNat=_;simp
theorem NR {w:Web}{x:Dt}(h:mG w.1 x=Rn):xP w x=.error "NoPlace":=by unfold xP;rw[h,aq au]
def NS (F:Dt->gF XD):List Dt->gF XD
 | [x]=>F x
 | _=>Rl
def NT (F:Dt->Dt->gF XD):List Dt->gF XD
 | [x,y]=>F x y
 | _=>Rl
theorem GF {F:Dt->gF XD}{ds:List Dt}{r:XD}(h:NS F ds=My r):∃ x,ds=[x]/\F x=My r:=by
 match ds,h with
 | [x],h=>exact⟨x,rfl,h⟩
theorem GG {F:Dt->Dt->gF XD}{ds:List Dt}{r:XD}(h:NT F ds=My r):∃ x y,ds=[x,y]/\F x y=My r:=by
 match ds,h with
 | [x,y],h=>exact⟨x,y,rfl,h⟩
def tT {α:Type}:Except Str α->XD
 | .ok _=>.ok .non
 | .error c=>.error c
def lH:List Dt->gF XD:=NS λ x=>if okW x=Rm then My (tT (xW x)) else Rl
def mH:DE->gF RX:=IM (j9 (gTr (iq 1 i8 (gN (gS 0) gR)))) (xR "NoWeb" (gC (.str "this is no web"))) (xUp kZ)
def jL:List Dt->gF XD:=NT λ y x=>(dW y).bind λ w=>if kdB x=Rm then My (tT (xP w x)) else Rl
def lI:DE->gF RX:=IM (j9 (gTr (iq 2 lg (gN (hU dIx (gS 0) (gC (.int 0))) (gN (gS 1) gR))))) (xR "NoPlace" (gC (.str "this is no place of the web"))) (xUp kZ)
theorem xp:HgX 1 ["thing"] lH mH:=by
 intro ds r hl h;obtain⟨x,rfl,h1⟩:=GF h;clear h;by_cases hx:okW x=Rm
 rotate_left
 ·rw[aq hx]at h1;cases h1
 rw[ai hx]at h1;cases h1;have c:i8 [x]=My (.bl (ju x)):=by show(if okW x=Rm then My (Dt.bl (ju x)) else Rl)=_;rw[ai hx]
 rw[zh]at c;unfold xW;cases e:dW x with
 | some w=>rw[e]at c;exact⟨.nx [My x],by simp[mH,c],rfl⟩
 | none=>rw[e]at c;exact⟨.ex "NoWeb",by simp[mH,c],rfl⟩
theorem uH:HgX 2 ["web","thing"] jL lI:=by
 intro ds r hl h;obtain⟨y,x,rfl,h1⟩:=GG h;obtain⟨w,e,h2⟩:=gQ h1;clear h h1;by_cases hx:kdB x=Rm
 rotate_left
 ·rw[aq hx]at h2;cases h2
 rw[ai hx]at h2;cases h2;obtain⟨rfl,g⟩:=vN e;have ix:dIx (iP w) (.int 0)=My (.int w.1):=rfl;have c:=B9 w.1 hx;unfold xP;generalize iP w=ww at *;by_cases cc:mG w.1 x=Rm
 ·rw[ai cc];rw[cc]at c;exact⟨.nx [My ww,My x],by simp[lI,ix,c],rfl⟩
 ·rw[aq cc];rw[bw]at cc;rw[cc]at c;exact⟨.ex "NoPlace",by simp[lI,ix,c],rfl⟩
theorem cw_X {x:Dt}(h:okW x=Rm):lH [x]=My (tT (xW x)):=by show(if okW x=Rm then My (tT (xW x)) else Rl)=_;rw[ai h]
theorem Mf {w:Web}(g:Good w){x:Dt}(h:kdB x=Rm):jL [iP w,x]=My (tT (xP w x)):=by show(dW (iP w)).bind (λ w=>if kdB x=Rm then My (tT (xP w x)) else Rl)=_;rw[qS g,aB,ai h]
section
variable {X:Cx}{a b c d:Expr}{ta tb tc td:TE}{pos:Pos}
def IW (r r' r2:R2)(ta tb tc td:TE):TE:=λ σ H Q=>ta σ H λ x H1=>tb σ H1 λ y H2=>r x y H2 λ z H3=>∃ k,z=.bl k /\
 (if k=Rm then tc σ H3 λ w H4=>r' y w H4 λ z H5=>∃ k,z=.bl k/\(if k=Rm then td σ H5 λ u H6=>r2 w u H6 Q else Q (.bl Rn) H5) else Q (.bl Rn) H3)
theorem Eb {op op' op2:CmpOp}{r r' r2:R2}(ho:OpR X (compareOp op) r)(ho':OpR X (compareOp op') r')(ho2:OpR X (compareOp op2) r2)(ha:PE X a ta)(hb:PE X b tb)(hc:PE X c tc)(hd:PE X d td)
  (hm:lastMarks [op,op',op2] [b,c,d]=Rn:=by with_unfolding_all rfl):PE X (.Compare a [op,op',op2] [b,c,d] pos) (IW r r' r2 ta tb tc td):=by
 intro pins s σ H Q I h;refine Compare_chain (thn (ha pins s σ H _ I h) λ v s1 ⟨x,H1,I1,r1,q1⟩=>chain_link (thn (hb pins s1 σ H1 _ I1 q1) λ u s2 ⟨y,H2,I2,r2,q2⟩ =>thn (ho pins s2 σ H2 x y v u _ I2 r1 r2 q2) λ d s3 ⟨z,H3,I3,r3,k,e,q3⟩=>?_)) hm
 subst e;cases r3;refine bQ ?_;cases k with
 | false=>exact ite_ff ⟨.bl Rn,H3,I3,rfl,q3⟩
 | true =>
  refine ite_tt (chain_link (thn (hc pins s3 σ H3 _ I3 q3) λ w' s4 ⟨z',H4,I4,r4,q4⟩=>thn (ho' pins s4 σ H4 y z' u w' _ I4 r2 r4 q4) λ d s5 ⟨z,H5,I5,r5,k,e,q5⟩=>?_));subst e;cases r5;refine bQ ?_;cases k with
  | false=>exact ite_ff ⟨.bl Rn,H5,I5,rfl,q5⟩
  | true=>exact ite_tt (chain_last (thn (hd pins s5 σ H5 _ I5 q5) λ u' s6 ⟨z2,H6,I6,r6,q6⟩=>ho2 pins s6 σ H6 z' z2 w' u' Q I6 r4 r6 q6))
def zj (f f' f2:Dt->Dt->gF Dt)(ga gb gc gd:DE->gF Dt):DE->gF Dt:=λ δ=>(ga δ).bind λ x=>(gb δ).bind λ y=>(f x y).bind λ z=>(asB z).bind λ k=>if k=Rm then (gc δ).bind λ w=>(f' y w).bind λ z=>(asB z).bind λ k=>if k=Rm then (gd δ).bind λ u=>f2 w u else My (.bl Rn) else My (.bl Rn)
@[simp] theorem NU (f f' f2:Dt->Dt->gF Dt) (ga gb gc gd:DE->gF Dt) (δ:DE):zj f f' f2 ga gb gc gd δ=(ga δ).bind λ x=>(gb δ).bind λ y=>(f x y).bind λ z=>(asB z).bind λ k=>if k=Rm then (gc δ).bind λ w=>(f' y w).bind λ z=>(asB z).bind λ k=>if k=Rm then (gd δ).bind λ u=>f2 w u else My (.bl Rn) else My (.bl Rn):=rfl
theorem GH {op op' op2:CmpOp}{f f' f2:Dt->Dt->gF Dt}{ga gb gc gd:DE->gF Dt}(ho:OpR X (compareOp op) (rD X.K f))(ho':OpR X (compareOp op') (rD X.K f'))(ho2:OpR X (compareOp op2) (rD X.K f2))(ha:PD X a ga)(hb:PD X b gb)(hc:PD X c gc)(hd:PD X d gd)
  (hm:lastMarks [op,op',op2] [b,c,d]=Rn:=by with_unfolding_all rfl):PD X (.Compare a [op,op',op2] [b,c,d] pos) (zj f f' f2 ga gb gc gd):=(Eb ho ho' ho2 ha hb hc hd hm).of λ σ H Q hz=>by
 obtain⟨δ,r,S,e,q⟩:=hz;obtain⟨x,e1,e⟩:=gQ e;obtain⟨y,e2,e⟩:=gQ e;obtain⟨z,e3,e⟩:=gQ e;obtain⟨k,e4,e⟩:=gQ e;rw[rM e4]at e3;refine⟨δ,x,S,e1,λ v H1 s1 i1=>⟨δ,y,S.ext s1,e2,λ v2 H2 s2 i2=>⟨x,y,_,i1.ext s2,i2,e3,λ v3 H3 s3 i3=>⟨k,i3.jk,?_⟩⟩⟩⟩;have s13:=(s1.trans s2).trans s3;cases k with
 | false=>rw[aq au]at e ⊢;cases e;exact q _ H3 s13 (.bl Rn)
 | true =>
  rw[ai rfl]at e ⊢;obtain⟨w,f1,e⟩:=gQ e;obtain⟨z,f3,e⟩:=gQ e;obtain⟨k,f4,e⟩:=gQ e;rw[rM f4]at f3;refine⟨δ,w,S.ext s13,f1,λ v4 H4 s4 i4=>⟨y,w,_,(i2.ext s3).ext s4,i4,f3,λ v5 H5 s5 i5=>⟨k,i5.jk,?_⟩⟩⟩;have s15:=(s13.trans s4).trans s5;cases k with
  | false=>rw[aq au]at e ⊢;cases e;exact q _ H5 s15 (.bl Rn)
  | true =>rw[ai rfl]at e ⊢;obtain⟨u,g1,e⟩:=gQ e;exact⟨δ,u,S.ext s15,g1,λ v6 H6 s6 i6=>⟨w,u,_,(i4.ext s5).ext s6,i6,e,λ v7 H7 s7 i7=>q v7 H7 ((s15.trans s6).trans s7) i7⟩⟩
end
end L2
namespace Tb
open PySem PySem.Spec PyProof.Rows
section
variable {prog:Program}{w:World}{A:Around}{E:gE}{s:gJ}{G:List Int->Addr->Prop}
theorem Ec {R:Result->gJ->Prop}(hh:A.in1.handled=Rl)(hu:A.in1.units<cLine){S I l:Addr}{items:Array gH}{kk:List (List Int)}(hk:kk.length=items.size)(h40:items.size<=40)(n1:S≠I)(n2:S≠l)(n3:l≠I) :
  ∀ (n i:Nat) (s:gJ) (ks:List (List Int)),items.size-i=n->i<=items.size->s.heap.IsTupleIter I l i->s.heap.IsTuple l items->qr G prog w s.heap S ks ->
   (∀ (j:Nat) v,items[j]?=My v->∃ k b,kk[j]?=My k/\v=.ref b/\lj prog w s.heap k b/\G k b)->ks.length<=i->(∀ k,k∈ks↔k∈kk.take i) ->
   (∀ h' tk ks',(∀ b o,b≠S->b≠I->s.heap.get? b=My o->h'.get? b=My o)->qr G prog w h' S ks'->(∀ k,k∈ks'↔k∈kk)->R (.ok (.ret .none)) {s with heap:=h',toks:=tk}) ->
   codeAny (model prog w) A (.builtin "set.update.loop" ⟨[.ref S,.ref I],[]⟩) R s:=by
 intro n;induction n using Nat.strongRecOn with
 | ind n ih =>
  intro i s ks hn hi st hl hS hv hlen hm fin;refine codeAny_builtin F.entry_set_update_loop ?_;rw[fq dE _];have tupI:∀ {h h':Heap} {b:Addr} {o:Obj} {x:Addr} {j:Nat},h.IsTupleIter x l j->h.get? b=My o->o.cls=.type "tuple"->b≠x:=λ hit e c z=>by obtain⟨o',e',c',_⟩:=hit;rw[z,e']at e;cases e;rw[c']at c;injection c with c;exact absurd c (by decide)
  by_cases hlt:i<items.size
  ·show wpAny _ A.in1 (pyNext (.ref I)>>=_) _ _ s
   refine ae (wpAny_pyNext_tuple_item st hl (x:=items[i]) (by simp[hlt]) λ h' st' sb=>?_);obtain⟨k,b,hkk,eb,tb,gb⟩:=hv i items[i] (by simp[hlt]);rw[eb];have bI:b≠I:=by obtain⟨o,its,m,q1,q2,_⟩:=tb;exact tupI (h':=h') st q1 q2
   have S1:qr G prog w h' S ks:=hS.keep (λ o e=>(sb.2 S n1).trans e) λ c o e hc=>(sb.2 c (tupI (h':=h') st e hc)).trans e;have tb1:lj prog w h' k b:=lO tb λ o e=>(sb.2 b bI).trans e;refine ae (bK (CJ (s:={s with heap:=h'}) hu S1 tb1 gb (by lia) λ h2 ks2 c tk sb2 S2 p2=>?_));have keep2:∀ x o,x≠S->x≠I->s.heap.get? x=My o->h2.get? x=My o:=λ x o x1 x2 e=>(sb2.2 x x1).trans ((sb.2 x x2).trans e);refine af ⟨plainId_quiet dE _,?_⟩;have mem2:∀ k',k'∈ks2↔k'∈kk.take (i+1):=λ k'=>by
    rw[p2.mem_iff,List.take_add_one,hkk,aM,<-hm k'];by_cases hin:k∈ks
    ·rw[ai hin];simp only[eE,ax,aN,or_false];exact⟨.inl,λ z=>z.elim id λ z=>z▸hin⟩
    ·rw[aq hin];simp only[eE,ax,aN,or_false];exact⟨λ z=>z.symm,λ z=>z.symm⟩
   have len2:ks2.length<=i+1:=by
    rw[p2.length_eq];split
    ·lia
    ·rw[bX];lia
   obtain⟨ol,hol,hcl,m,hdl⟩:=id hl;refine ih (n-1) (by lia) (i+1) {s with heap:=h2,toks:=tk} ks2 (by lia) hlt ?_ ⟨ol,keep2 l ol n2.symm n3 hol,hcl,m,hdl⟩ S2 (λ j v hj=>?_) len2 mem2 λ h3 tk3 ks3 kp3 S3 m3=>?_
   ·obtain⟨oI,eI,cI,dI⟩:=st';exact⟨oI,(sb2.2 I n1.symm).trans eI,cI,dI⟩
   ·obtain⟨k',b',q1,q2,q3,g3⟩:=hv j v hj
    refine⟨k',b',q1,q2,lO q3 λ o e=>?_,g3⟩;have c1:b'≠I:=by obtain⟨o',its,m,z1,z2,_⟩:=q3;exact tupI (h':=h') st z1 z2
    have c2:b'≠S:=by rintro rfl;obtain⟨oS,es,ep,t,z1,_,z2,_⟩:=hS;obtain⟨o',its,m,y1,_,y3,_⟩:=q3;rw[z1]at y1;cases y1;rw[z2]at y3;cases y3
    exact keep2 b' o c2 c1 e
   ·exact fin h3 tk3 ks3 (λ x o x1 x2 e=>kp3 x o x1 x2 (keep2 x o x1 x2 e)) S3 m3
  ·have e:i=items.size:=by lia
   show wpAny _ A.in1 (pyNext (.ref I)>>=_) _ _ s;refine ae (wpAny_pyNext_tuple_end hh st hl (cS (fC e.symm)) λ h' eb=>?_);show wpAny _ A.in1 (ret Value.none) _ _ _;refine af (fin h' s.toks ks (λ x o _ x2 q=>eb x o x2 q) (hS.keep (λ o q=>eb S o n1 q) λ c o q hc=>eb c o (tupI (h':=h') st q hc) q) λ k=>?_);rw[hm k,e,<-hk,d9]
theorem zk {l:Addr}{items:Array gH}{kk:List (List Int)}{Q:gE}(hh:A.handled=Rl)(hu:A.units+40<cLine)(hl:s.heap.IsTuple l items)(hk:kk.length=items.size)(h40:items.size<=40)
  (hv:∀ (j:Nat) v,items[j]?=My v->∃ k b,kk[j]?=My k/\v=.ref b/\lj prog w s.heap k b/\G k b)
  (h:∀ h' tk ks,(∀ b o,b<s.heap.objs.size->s.heap.get? b=My o->h'.get? b=My o)->qr G prog w h' s.heap.objs.size ks->(∀ k,k∈ks↔k∈kk)->Q (.ref s.heap.objs.size) {s with heap:=h',toks:=tk}) :
  wpAny (model prog w) A (call (.type "set") [.ref l]) Q E s:=by
 obtain⟨c0,tl0,hmro⟩:=cf.mro;have hmade:=cf.made;have hsub:=cf.sub;refine f6 (codeAny_of_tree ?_);show wpAny _ _ (callAny (.type "set") _) _ _ _;refine af ⟨fK _ (by decide +kernel),codeAny_builtin F.entry_type_call ?_⟩;rw[Around.under_plain (weight_type_call_type "set" [.ref l] []) rfl];have hnt:=cf.notType;have hcc:=cf.canCreate;have hct:=F.typeCall_set_1 (.ref l);repeat (any_goals (first | assumption | wp_step))
 refine codeAny_mono (CK (a:=.ref l) (E:=E) (Q₁:=λ obj s₁=>obj=.ref s.heap.objs.size/\s₁={s with heap:=s.heap.push {cls:=.type "set",dict:=Rl,data:=.set #[] 0 (.fresh 0 0 (!(w.params.followText "set-order")))}}) ⟨rfl,rfl⟩) λ r s₁ hr=>?_;cases r with
 | error e=>exact hr
 | ok fl =>
  cases fl with
  | ret obj =>
   obtain⟨rfl,rfl⟩:=hr;generalize hN0:({cls:=.type "set",dict:=Rl,data:=.set #[] 0 (.fresh 0 0 (!(w.params.followText "set-order")))}:Obj)=N0;have hS:(s.heap.push N0).get? s.heap.objs.size=My N0:=aE _ (by rw[<-hN0];rfl);have hT:Shared.TypeIs {s with heap:=s.heap.push N0} (.ref s.heap.objs.size) "set":=⟨_,hS,by rw[<-hN0]⟩;have hli:=cf.init.lookup;have hbi:=cf.init.bind (.ref s.heap.objs.size);repeat (any_goals (first | assumption | wp_step))
   refine codeAny_mono (codeAny_call_builtin (R:=wants (λ r s₂=>r=.none/\∃ h' tk ks,s₂={s with heap:=h',toks:=tk}/\qr G prog w h' s.heap.objs.size ks/\(∀ k,k∈ks↔k∈kk)/\(∀ b o,b<s.heap.objs.size->s.heap.get? b=My o->h'.get? b=My o)) E)
    cf.init.plain F.entry_set_init (check_set_init_1 hT ?_)) λ r₂ s₂ hr₂=>?_
   ·obtain⟨ol,hol,hcl,nl,hdl⟩:=id hl
    obtain⟨ocls,odict,odata,oslots⟩:=ol;simp only at hcl hdl;subst hcl;subst hdl;have hol':(s.heap.push N0).get? l=My {cls:=.type "tuple",dict:=odict,data:=.seq items nl,slots:=oslots}:=ag _ hol;have hsls:=F.sub_tuple_set;have hslf:=F.sub_tuple_frozenset;have hne:(Value.type "tuple"==Value.type "dict")=Rn:=by decide
    have hl1:(s.heap.push N0).IsTuple l items:=⟨_,hol',rfl,nl,rfl⟩;have hS0:(s.heap.push N0).get? s.heap.objs.size=My {cls:=.type "set",dict:=Rl,data:=.set #[] 0 (.fresh 0 0 (!(w.params.followText "set-order")))}:=by rw[hS,hN0]
    unfold Builtin.«set.__init__» noKeywords Builtin.Frozenset.updateFrom;generalize hPI:pyIter=PI
    wp_walk
    subst hPI;refine fE hl1 ?_;refine ae (wpAny_runValue ?_);have hlS:l<s.heap.objs.size:=av hol;have szP:(s.heap.push N0).objs.size=s.heap.objs.size+1:=cE ..;have keep:∀ b o,s.heap.get? b=My o->((s.heap.push N0).push {cls:=.type "tuple_iterator",data:=.fields #[.ref l,.int 0 0]}).get? b=My o:=λ b o e=>ag _ (ag _ e);refine Ec (G:=G) (A:=A.in1.in1) (by simp[hh]) (dN (show A.units+3<=A.units+40 by lia) hu) hk h40 (by rw[szP];exact aP (d_ _)) (bR hlS) (by rw[szP];exact aP (dq hlS)) items.size 0 _ [] (by lia) (aQ _)
     ⟨_,aE _ rfl,rfl,rfl⟩ (hl1.push _) ⟨_,#[],0,.fresh 0 0 (!(w.params.followText "set-order")),ag _ hS0,⟨rfl,rfl,rfl⟩,rfl,?_,.nil,rfl,rfl,.inl ⟨rfl,aQ _⟩,fH⟩ (λ j v hj=>?_) (ar _) (by simp) λ h' tk ks kp S' m'=>?_
    ·exact⟨.inl rfl,rfl,λ a b x y _ e=>by simp[SetTable.fresh]at e,λ i j e=>by simp[SetTable.fresh]at e,rfl,aQ _,λ i j h e=>by simp[SetTable.fresh]at e⟩
    ·obtain⟨k,b,q1,q2,q3,g3⟩:=hv j v hj;exact⟨k,b,q1,q2,lO q3 (λ o e=>keep b o e),g3⟩
    ·show wpAny _ _ _ _ _ _;refine af ?_;show wpAny _ _ (ret Value.none) _ _ _;refine af ⟨rfl,h',tk,ks,rfl,S',m',λ b o hb e=>kp b o (aP hb) (by rw[szP];exact aP (dq hb)) (keep b o e)⟩
   ·cases r₂ with
    | error e=>exact hr₂
    | ok fl₂ =>
     cases fl₂ with
     | ret r =>
      obtain⟨rfl,h',tk,ks,rfl,S',m',kp⟩:=hr₂;repeat (any_goals (first | assumption | wp_step))
      exact h _ _ _ kp S' m'
     | _=>exact hr₂.elim
  | _=>exact hr.elim
end
end Tb
namespace L2
open PySem PySem.W PySem.Spec PyProof.Rows Tb
section
variable {X:Cx}{pins:gL}{σ:St}{H:Hp}{s:gJ}
theorem Kv (I:Inv X pins σ H s){k:List Int}{b:Addr}(e:SqT X.K H b (k.map V.int)):lj X.prog X.w s.heap k b:=by obtain⟨its,r,⟨o,e1,e2,n,e3⟩,_⟩:=I.tuple e;exact⟨o,its.toArray,n,e1,e2,e3,by simpa using om r⟩
def Dg (K:gG)(H:Hp)(vs:List V)(kk:List (List Int)):Prop:=Paired (λ v k=>∃ b,v=V.ref b/\SqT K H b (k.map V.int)) vs kk
def NV (K:gG)(w:World)(H:Hp)(S:Addr)(ks:List (List Int)):Prop:=∃ oS es ep t,H S=My (.ext λ h=>h.get? S=My oS)/\oS.ExactSet/\oS.data=.set es ep t/\TOk t (es.toList.map (·.1))/\t.plain=Rm/\t.led=!(w.params.followText "set-order")/\es.size<=76/\ks.Nodup /\
 Paired (λ k (e:Int×gH)=>∃ b,e.2=Value.ref b/\SqT K H b (k.map V.int)) ks es.toList
theorem Ed (hc:X.calm=Rm)(hu:X.A.units+64<cLine):jq X (.type "set") (λ xs H Q=>∃ l vs kk,xs=[V.ref l]/\SqT X.K H l vs/\Dg X.K H vs kk/\vs.length<=40 /\
  ∀ S o ks,H S=Rl->NV X.K X.w (upd H S o) S ks->(∀ k,k∈ks↔k∈kk)->Q (.ref S) (upd H S o)):=by
 intro pins s σ H xs us Q I r h;obtain⟨l,vs,kk,rfl,hl,ht,hz,q⟩:=h;obtain⟨u,rfl,ru⟩:=vals1 r;cases ru;obtain⟨its,rv,p,_⟩:=I.tuple hl;have hlen:vs.length=its.length:=rv.length;have hkl:vs.length=kk.length:=ht.length;refine zk (G:=λ k b=>SqT X.K H b (k.map V.int)) (I.ok.hd hc) (dN (show X.A.units+40<=X.A.units+64 by lia) hu) (show s.heap.IsTuple l its.toArray from p) (kk:=kk) (by simp;lia) (by simp;lia) (λ j v hj=>?_) λ h' tk ks kp S' m'=>?_
 ·have hj:its[j]?=My v:=by simpa using hj
  have hjl:j<vs.length:=by have:=(aL.mp hj).1;lia
  obtain⟨k,hk1,b,hb,hb2⟩:=nJ ht j vs[j] (by simp[hjl]);obtain⟨u,hu1,hu2⟩:=rv.get (x:=vs[j]) (i:=j) (by simp[hjl]);rw[hj]at hu1;cases hu1;rw[hb]at hu2;cases hu2;exact⟨k,b,hk1,rfl,Kv I hb2,hb2⟩
 ·obtain⟨oS,es,ep,t,ho,hx,hd,T,En,hp,hl',hr,nd⟩:=S';have keep:∀ b u,s.heap.get? b=My u->h'.get? b=My u:=λ b u e=>kp b u (av e) e;have hn:=I.hok.fresh (ar s.heap.objs.size);have I':Inv X pins σ (upd H s.heap.objs.size (.ext λ h=>h.get? s.heap.objs.size=My oS)) {s with heap:=h',toks:=tk}:=I.laid keep (ar _) ⟨ho,⟨_,ho⟩,λ h1 h2 a b=>b _ a⟩;refine⟨.ref s.heap.objs.size,_,I',rfl,q _ _ ks hn ⟨oS,es,ep,t,gW,hx,hd,T,hp,hl',?_,nd,mT (λ k e ⟨b,e1,_,e2⟩=>⟨b,by rw[e1],(gY.upd hn).tI e2⟩) En⟩ m'⟩;rcases hr with⟨_,z⟩ | ⟨_,z⟩ | ⟨_,z⟩<;>lia
theorem zl (hc:X.calm=Rm):jq X (.builtin "sorted") (λ xs H Q=>∃ S kk,xs=[V.ref S]/\NV X.K X.w H S (kk.map λ(k:Int×Int)=>[k.1,k.2])/\kk.length<64 /\
  ∀ p ws (ss:List (Int×Int)),H p=Rl->Dg X.K H ws (ss.map λ k=>[k.1,k.2])->ss.Pairwise (λ a b=>pLt a b=Rm)->ss.Perm kk->Q (.ref p) (upd H p (.lst ws))):=by
 intro pins s σ H xs us Q I r h;obtain⟨S,kk,rfl,hS,h64,q⟩:=h;obtain⟨u,rfl,ru⟩:=vals1 r;cases ru;obtain⟨oS,es,ep,t,e1,hx,hd,T,hp,hl,hz,nd,pr⟩:=hS;have hok:=I.hok S _ e1;have hS:s.heap.get? S=My oS:=hok.1;obtain⟨m,hm,_⟩:=id I.loc;have no:∀ b,(Att.jd s.heap).get? b=Rl:=λ b=>cA (aQ _);have hkl:kk.length=es.size:=by have:=pr.length;simpa using this
 have ndk:kk.Nodup:=by rw[aI]at nd ⊢;rw[bp]at nd;exact nd.imp λ h e=>h (by rw[e])
 obtain⟨k3,pk,pr3⟩:=uf (qc X.w S ep es).symm (oq _ pr);have hk3:k3.length=es.size:=by rw[<-pk.length_eq,hkl]
 refine ee kind_sorted plain_sorted entry_sorted (args_sorted1 _) ?_;unfold Builtin.«sorted»;refine ae (m:=checkCount "sorted" 1 1 _) (af (ae (kdu_collect (A:=X.A.in1) (CO hx hd T hp hl) (I.ok.hd hc) hS (by rw[sizeLine_eq];lia) λ h1 tk acc hk hacc=>?_)));have hal:acc.toList.length=es.size:=by rw[bx];exact hacc.1
 have hav:∀ (j:Nat) (v:gH),acc.toList[j]?=My v->∃ hv,(seen X.w S ep es)[j]?=My (hv,v):=λ j v e=>hacc.2 j v (by rw[<-bh];exact e);generalize acc.toList=vs at hal hav;refine ae (fU ?_ (by rw[sizeLine_eq];lia));have hL:X.env.locals<h1.objs.size:=by obtain⟨oL,_,_,ho,_⟩:=hm;exact av (hk _ _ ho)
 have at_j:∀ j,j<es.size->∃ b,vs[j]?=My (.ref b)/\SqT X.K H b [.int (k3.getD j (0,0)).1,.int (k3.getD j (0,0)).2]:=λ j hj=>by
  obtain⟨hv,e2⟩:=hav j vs[j] (by simp[hal,hj]);have hj3:k3[j]?=My (k3.getD j (0,0)):=by rw[aF];simp[hk3,hj]
  obtain⟨y,y1,b,y2,y3⟩:=nJ pr3 j _ hj3;rw[bh,e2]at y1;cases y1;exact⟨b,by rw[<-y2];simp[hal,hj],y3⟩
 have keep1:∀ b o,s.heap.get? b=My o->(h1.push {cls:=.type "list",data:=.seq vs.toArray}).get? b=My o:=λ b o e=>ag _ (hk b o e);have F1:Fr (Att.jd s.heap) X.env.locals (h1.push {cls:=.type "list",data:=.seq vs.toArray}) m:=⟨hm.at' λ o e=>keep1 _ o e,(λ b o e=>by rw[no]at e;cases e),aQ _⟩;have N1:News (Att.jd s.heap) X.env.locals (h1.push {cls:=.type "list",data:=.seq vs.toArray}) (kU (Att.jd s.heap) s.heap X.env.locals):=λ p hp=>let ⟨a,_,c⟩:=jG hp;⟨keep1 _ _ c,a,no _⟩;have hD:(h1.push {cls:=.type "list",data:=.seq vs.toArray}).get? h1.objs.size=My (listOf vs.toArray 0):=aE _ rfl;have hneD:∀ p∈kU (Att.jd s.heap) s.heap X.env.locals,p.1≠h1.objs.size:=λ p hp=>let ⟨_,_,c⟩:=jG hp;aP (av (hk _ _ c));have fin:∀ (l:List Nat) h2 c tk2,l.Perm (Ro es.size)->(l.map λ i=>k3.getD i (0,0)).Pairwise (λ a b=>pLt b a=Rn)->Fr (Att.jd s.heap) X.env.locals h2 m->News (Att.jd s.heap) X.env.locals h2 ((h1.objs.size,listOf (List.toArray (l.map λ i=>vs.getD i Value.none)) c)::kU (Att.jd s.heap) s.heap X.env.locals) ->
   EP X pins σ Q (.ref h1.objs.size) {s with heap:=h2,toks:=tk2}:=λ l h2 c tk2 hlp hso F2 N2=>by
  have I2:Inv X pins σ H {s with heap:=h2,toks:=tk2}:=I.qe hm F2 λ p hp=>N2 p (aw _ hp);have hn:H h1.objs.size=Rl:=by
   cases e:H h1.objs.size with
   | none=>rfl
   | some o =>obtain⟨o',ho'⟩:=vE (I.hok _ _ e);exact absurd (av (hk _ _ ho')) (aW _)
  have hlt:∀ i∈l,i<es.size:=λ i hi=>aD.mp (hlp.mem_iff.mp hi);let bo:Nat->Addr:=λ i=>match vs[i]? with | some (.ref b)=>b | _=>0
  have hbo:∀ i,i<es.size->vs.getD i Value.none=.ref (bo i)/\SqT X.K H (bo i) [.int (k3.getD i (0,0)).1,.int (k3.getD i (0,0)).2]:=λ i hi=>by
   obtain⟨b,b1,b2⟩:=at_j i hi;have:bo i=b:=by show(match vs[i]? with | some (.ref b)=>b | _=>0)=b;rw[b1]
   rw[this,aF,b1];exact⟨rfl,b2⟩
  have new:jm X.prog X.w (upd H h1.objs.size (.lst (l.map λ i=>V.ref (bo i)))) h2 h1.objs.size (.lst (l.map λ i=>V.ref (bo i))) :=
   ⟨by rw[ah,hlp.length_eq,b_,sizeLine_eq];lia,l.map λ i=>vs.getD i Value.none,c,kY l λ i hi=>(hbo i (hlt i hi)).1,(N2 _ ay).1⟩
  have I3:Inv X pins σ (upd H h1.objs.size (.lst (l.map λ i=>V.ref (bo i)))) {s with heap:=h2,toks:=tk2}:=I2.Ad hn (bA I.ok.above (eM hL)) (bR hL) (λ x c e z=>by
    obtain⟨v,o,ho,_⟩:=I.cell x c e;exact absurd (av (hk _ _ ho)) (by rw[z];exact aW _)) (λ p hp z=>by
    exact absurd (av (hk _ _ (I.pin p hp).1)) (by rw[z];exact aW _)) new
  have perm2:(l.map λ i=>k3.getD i (0,0)).Perm kk:=by have:=hlp.map λ i=>k3.getD i (0,0);rw[<-hk3,jJ]at this;exact this.trans pk.symm
  have ndl:(l.map λ i=>k3.getD i (0,0)).Nodup:=perm2.nodup_iff.mpr ndk;refine⟨.ref h1.objs.size,_,I3,rfl,q _ _ (l.map λ i=>k3.getD i (0,0)) hn ?_ ?_ perm2⟩
  ·rw[bq];exact kY l λ i hi=>⟨bo i,rfl,(hbo i (hlt i hi)).2⟩
  ·rw[aI]at ndl
   refine(hso.and ndl).imp λ{a b} ⟨h1,h2⟩=>?_;cases e:pLt a b with
   | true=>rfl
   | false=>exact absurd (Tb.PO.total a b e h1) h2
 refine ae (bK ?_);by_cases h2:2<=vs.length
 ·refine qN (X:=λ i=>k3.getD i (0,0)) F1 (λ p hp=>?_) hneD h2 (by lia) (λ h' F' N' i v hv=>?_) λ p h' c P So F2 N2=>af ⟨_,rfl,?_⟩
  ·rcases ax.mp hp with rfl | hp
   ·exact⟨hD,bR hL,no _⟩
   ·exact N1 p hp
  ·have hi:i<es.size:=by
    have:=(aL.mp hv).1;lia
   obtain⟨b,b1,b2⟩:=at_j i hi;rw[hv]at b1;cases b1;refine⟨b,rfl,?_⟩;have I2:Inv X pins σ H {s with heap:=h',toks:=s.toks}:=I.qe hm F' N';exact Kv I2 (k:=[_,_]) b2
  ·rw[hal]at P So
   refine fin p.toList h' c _ P.2 ?_ F2 N2;rw[bp,bM];intro i j hi hj hij;have hjs:j<es.size:=by have:=P.size;simp at hj;lia
   have:=So i j (by lia) hjs;unfold KeyOrd.kle Kp at this;have gi:p.getD i 0=p.toList[i]:=by simp[Array.getD,show i<p.size by simpa using hi]
   have gj:p.getD j 0=p.toList[j]:=by simp[Array.getD,show j<p.size by simpa using hj]
   rw[gi,gj]at this;exact this
 ·refine qO hD (by lia) λ h' c kp hc'=>af ⟨_,rfl,?_⟩
  refine fin (Ro es.size) h' c _ (.refl _) ?_ ⟨F1.ns.at' λ o e=>kp _ o (aP hL) e,(λ b o e=>by rw[no]at e;cases e),aQ _⟩ λ p hp=>?_
  ·have:((Ro es.size).map λ i=>k3.getD i (0,0)).length<2:=by simp;lia
   match (Ro es.size).map (λ i=>k3.getD i (0,0)),this with
   | [],_=>exact .nil
   | [a],_=>exact dH _ _
  ·rcases ax.mp hp with rfl | hp
   ·refine⟨?_,bR hL,no _⟩;rw[<-hal,jJ];exact hc'
   ·exact⟨kp _ _ (hneD p hp) (N1 p hp).1,(N1 p hp).2⟩
end
end L2
namespace L2
open PySem PySem.Spec PyProof.Rows Zp Qs PySem.SeqAt
def uqP:gK->gK
 | []=>[]
 | a::r=>if a∈uqP r then uqP r else a::uqP r
set_option tactic.hygienic true in
theorem uW {t:Nat×Nat}:∀ {l:gK},t∈uqP l↔t∈l
 | []=>.rfl
 | a::r=>by
  rw[uqP,ax];split
  ·rename_i h;rw[uW (l:=r)]at h;rw[uW (l:=r)];exact⟨.inr,λ z=>z.elim (λ z=>z▸h) id⟩
  ·rw[ax,uW (l:=r)]
set_option tactic.hygienic true in
theorem zm:∀ l:gK,(uqP l).Nodup
 | []=>fH
 | a::r=>by
  rw[uqP];split
  ·exact zm r
  ·rename_i h;exact bu.mpr ⟨h,zm r⟩
def ssP (l:gK):gK:=uE (uqP l)
theorem Ee {m:gK}(hm:m.Pairwise λ a b=>mj a b=Rm):m.Nodup:=by rw[aI];exact hm.imp λ{a b} h e=>by subst e;rw[kO]at h;lia
theorem IX {l m:gK}(h1:l.Nodup)(h2:m.Nodup)(h:∀ t,t∈l↔t∈m):l.Perm m:=by
 rw[List.perm_iff_count];intro a;by_cases c:a∈l
 ·rw[h1.count,h2.count,ai c,ai ((h a).mp c)]
 ·rw[h1.count,h2.count,aq c,aq λ z=>c ((h a).mpr z)]
theorem uj {m l:gK}(hm:m.Pairwise λ a b=>mj a b=Rm)(h:∀ t,t∈m↔t∈l):m=ssP l :=
 x_ (IX (Ee hm) (zm l) λ t=>by rw[h,uW]) (hm.imp DV)
theorem Cb (l:gK):(ssP l).Pairwise λ a b=>mj a b=Rm:=by have nd:(ssP l).Nodup:=(nR _).nodup_iff.mpr (zm l);rw[aI]at nd;exact((C5 (uqP l)).and nd).imp λ⟨h1,h2⟩=>LQ h1 h2
theorem IY (l:gK):l=ssP l↔rise l=Rm :=
 ⟨λ h=>by rw[h];exact y_ (Cb l),λ h=>uj (mF h) λ _=>.rfl⟩
def dSS (x:Dt):gF Dt:=(dTt x).bind λ l=>if l.length<=40 then My (.lst ((ssP l).map g6)) else Rl
theorem AR {K:gG}{H:Hp}:∀ {l:gK} {xs:List V},Iss K H xs (l.map g6)->Dg K H xs (l.map λ t=>[(t.1:Int),(t.2:Int)])
 | [],_,.nil=>.nil
 | t::r,_,.cons i is=>by obtain⟨a,ys,rfl,ha,js⟩:=i.ip;obtain⟨v0,v1,rfl,j0,j1⟩:=js.two;rw[j0.int_inv,j1.int_inv]at ha;exact .cons ⟨a,rfl,ha⟩ (AR is)
theorem yc {K:gG}{H:Hp}:∀ {ss:gK} {ws:List V},Dg K H ws (ss.map λ t=>[(t.1:Int),(t.2:Int)])->Iss K H ws (ss.map g6)
 | [],_,.nil=>.nil
 | t::r,_,.cons ⟨a,e,h⟩ hs=>by subst e;exact .cons (.tup h (.cons (.int _) (.cons (.int _) .nil))) (yc hs)
section
variable {X:Cx}{e:Expr}{pos p p2 pos2:Pos}
theorem AS {g:DE->gF Dt}(hc:X.calm=Rm)(hu:X.A.units+64<cLine)(zs:X.mg "sorted"=Rl)(zt:X.mg "set"=Rl)(he:PD X e g)(hg1:Gl X "sorted":=by rfl)(hg2:Gl X "set":=by rfl)
  (h1:starEach [.Call (.Name "set" p2) [e] [] pos2] X.env=[(Rn,eval (.Call (.Name "set" p2) [e] [] pos2) X.env)]:=by rfl) (h2:starEach [e] X.env=[(Rn,eval e X.env)]:=by rfl) :
  PD X (.Call (.Name "sorted" p) [.Call (.Name "set" p2) [e] [] pos2] [] pos) (λ δ=>(g δ).bind dSS) :=
 (jH (zl hc) hg1 zs boot_sorted (gP (kX (Ed hc hu) hg2 zt boot_set (gP he g_ h2) (he:=h2) (hpl:=by rfl)) g_ h1) (he:=h1) (hpl:=by rfl)).of λ σ H Q hz=>by
  obtain⟨δ,d,S,e,q⟩:=hz;obtain⟨x,e1,e2⟩:=gQ e;obtain⟨l,e3,e4⟩:=gQ e2;by_cases hl:l.length<=40
  rotate_left
  ·rw[aq hl]at e4;cases e4
  rw[ai hl]at e4;cases e4;rw[uQ e3]at e1;refine⟨δ,_,S,e1,λ v H1 s1 i1=>?_⟩;obtain⟨a,xs,rfl,ha,is⟩:=i1.ip;refine⟨a,xs,_,rfl,ha,AR is,by rw[is.length,ah];exact hl,λ S o ks hS sk mem=>?_⟩;have form:(ks.map λ k=>(k.getD 0 0,k.getD 1 0)).map (λ(k:Int×Int)=>[k.1,k.2])=ks:=by
   rw[bq];conv=>rhs;rw[<-cT ks]
   refine cm λ k hk=>?_;obtain⟨t,ht,rfl⟩:=aA.mp ((mem k).mp hk);rfl
  have nd:ks.Nodup:=sk.choose_spec.choose_spec.choose_spec.choose_spec.2.2.2.2.2.2.2.1;have kl:ks.length<=40:=by have:=aK nd (l₂:=l.map λ t=>[(t.1:Int),(t.2:Int)]) λ k hk=>(mem k).mp hk;rw[ah]at this;lia
  have s2:gY H1 (upd H1 S o):=gY.upd hS;refine⟨S,ks.map λ k=>(k.getD 0 0,k.getD 1 0),rfl,by rw[form];exact sk,by rw[ah];lia,λ p ws ss hp tu st pm=>?_⟩;have nn:∀ k∈ss,∃ t∈l,k=((t.1:Int),(t.2:Int)):=λ k hk=>by obtain⟨z,hz,rfl⟩:=aA.mp (pm.mem_iff.mp hk);obtain⟨t,ht,rfl⟩:=aA.mp ((mem z).mp hz);exact⟨t,ht,rfl⟩
  have es:ss=(ss.map λ k=>(k.1.toNat,k.2.toNat)).map λ t=>((t.1:Int),(t.2:Int)):=by
   rw[bq];conv=>lhs;rw[<-cT ss]
   refine cm λ k hk=>?_;obtain⟨t,ht,rfl⟩:=nn k hk;simp
  have e5:ss.map (λ k=>(k.1.toNat,k.2.toNat))=ssP l:=by
   refine uj ?_ λ t=>?_
   ·rw[bp];refine st.imp_of_mem λ{a b} ha hb h=>?_;obtain⟨t,_,rfl⟩:=nn a ha;obtain⟨u,_,rfl⟩:=nn b hb;rw[Tb.oh]at h;rw[kO];simp only[bS];lia
   ·rw[aA]
    constructor
    ·rintro⟨k,hk,rfl⟩;obtain⟨t,ht,rfl⟩:=nn k hk;simpa using ht
    ·intro ht;refine⟨((t.1:Int),(t.2:Int)),pm.mem_iff.mpr (aA.mpr ⟨[(t.1:Int),(t.2:Int)],(mem _).mpr (aA.mpr ⟨t,ht,rfl⟩),rfl⟩),by simp⟩
  refine q _ _ ((s1.trans s2).trans (gY.upd hp)) (.lst gW ?_);rw[es,bq,e5]at tu;exact(yc tu).ext (gY.upd hp)
def Mg (x y:Dt):gF Dt:=(qR x).bind λ a=>(qR y).bind λ b=>(xk a).bind λ l=>(xk b).bind λ m=>My (.bl (!decide (l=m)))
theorem IZ:∀ (l m:gK),mi (l.map g6) (m.map g6)=decide (l=m):=by
 intro l;induction l with
 | nil=>intro m;cases m<;>simp[mi]
 | cons n r ih =>
  intro m;cases m with
  | nil=>simp[mi]
  | cons k t =>rw[aS,aS,mi,ih t,AE,bC];simp
theorem I8:∀ (l m:gK),yU (l.map g6) (m.map g6)=Rm:=by
 intro l;induction l with
 | nil=>intro m;rfl
 | cons n r ih =>
  intro m;cases m with
  | nil=>rfl
  | cons k t=>rw[aS,aS,yU,ih t];rfl
theorem NW (hu:X.A.units+2<cLine):OpR X (compareOp .NotEq) (rD X.K Mg):=by
 intro pins s σ H x y v u Q I rx ry hz;obtain⟨d,d',r,i,i',e,q⟩:=hz;obtain⟨a,e1,f1⟩:=gQ e;obtain⟨b,e2,f2⟩:=gQ f1;obtain⟨l,e3,f3⟩:=gQ f2;obtain⟨m,e4,f4⟩:=gQ f3;obtain rfl:=jV e1;obtain rfl:=jV e2;obtain rfl:=mX e3;obtain rfl:=mX e4;clear e f1 f2 f3 e1 e2 e3 e4;cases f4;obtain⟨p,xs,rfl,hp,is⟩:=i.lst_inv;obtain⟨p',ys,rfl,hq,js⟩:=i'.lst_inv;cases rx;cases ry;obtain⟨its,rv,t1,_⟩:=I.list (SqL.of hp);obtain⟨its',rv',t2,_⟩:=I.list (SqL.of hq);have l1:its.length=l.length:=by rw[<-rv.length,is.length,ah]
 have l2:its'.length=m.length:=by rw[<-rv'.length,js.length,ah]
 by_cases hl:l.length=m.length
 ·have hsz:its.toArray.size=its'.toArray.size:=by rw[ao,ao,l1,l2,hl]
  have:=RcNeAt.lists (A:=X.A) (s:=s) (l:=p) (b:=p') (items:=its.toArray) (items2:=its'.toArray) (e:=eAt (l.map g6) (m.map g6)) t1.isList t2.isList hsz (by lia) (oz is js rv rv' λ h1 h2 i1 i2 r1 r2=>CW I (by show X.A.units+1<cLine;lia) (rO (I8 l m) h1 h2) i1 i2 r1 r2);have ea:=mV is js rv rv';rw[hsz,gf,beq_self_eq_true,dB,IZ]at ea;rw[hsz,ea]at this;exact this X.prog X.w X.xe _ ⟨.bl _,H,I,rfl,q _ H (gY.refl H) (.bl _)⟩
 ·have:=RcNeAt.lists_lengths (A:=X.A) (s:=s) (l:=p) (b:=p') (items:=its.toArray) (items2:=its'.toArray) t1.isList t2.isList (by rw[ao,ao,l1,l2];simpa using hl) (by lia);have ne:decide (l=m)=Rn:=decide_eq_false λ z=>hl (by rw[z]);rw[ne]at q;exact this X.prog X.w X.xe _ ⟨.bl _,H,I,rfl,q _ H (gY.refl H) (.bl _)⟩
def Mh (x y:Dt):gF Dt:=(qR x).bind λ a=>(qR y).bind λ b=>(nu a).bind λ l=>(nu b).bind λ m=>My (.bl (decide (l=m)))
theorem NX (hu:X.A.units+2<cLine):OpR X (compareOp .Eq) (rD X.K Mh):=by
 intro pins s σ H x y v u Q I rx ry hz;obtain⟨d,d',r,i,i',e,q⟩:=hz;obtain⟨a,e1,f1⟩:=gQ e;obtain⟨b,e2,f2⟩:=gQ f1;obtain⟨l,e3,f3⟩:=gQ f2;obtain⟨m,e4,f4⟩:=gQ f3;obtain rfl:=jV e1;obtain rfl:=jV e2;obtain rfl:=mL e3;obtain rfl:=mL e4;clear e f1 f2 f3 e1 e2 e3 e4;cases f4;obtain⟨p,xs,rfl,hp,is⟩:=i.lst_inv;obtain⟨p',ys,rfl,hq,js⟩:=i'.lst_inv;cases rx;cases ry;obtain⟨its,rv,t1,_⟩:=I.list (SqL.of hp);obtain⟨its',rv',t2,_⟩:=I.list (SqL.of hq);have l1:its.length=l.length:=by rw[<-rv.length,is.length,ah]
 have l2:its'.length=m.length:=by rw[<-rv'.length,js.length,ah]
 by_cases hl:l.length=m.length
 ·have hsz:its.toArray.size=its'.toArray.size:=by rw[ao,ao,l1,l2,hl]
  have:=RcAt.lists (A:=X.A) (s:=s) (l:=p) (b:=p') (items:=its.toArray) (items2:=its'.toArray) (e:=eAt (l.map .int) (m.map .int)) t1.isList t2.isList hsz (by lia) (oz is js rv rv' λ h1 h2 i1 i2 r1 r2=>Ak (pN (D7 l m) h1 h2) i1 i2 r1 r2);have ea:=mV is js rv rv';rw[hsz,gf,beq_self_eq_true,dB,D8]at ea;rw[hsz,ea]at this;exact this X.prog X.w X.xe _ ⟨.bl _,H,I,rfl,q _ H (gY.refl H) (.bl _)⟩
 ·have:=RcAt.lists_lengths (A:=X.A) (s:=s) (l:=p) (b:=p') (items:=its.toArray) (items2:=its'.toArray) t1.isList t2.isList (by rw[ao,ao,l1,l2];simpa using hl) (by lia);have ne:decide (l=m)=Rn:=decide_eq_false λ z=>hl (by rw[z]);rw[ne]at q;exact this X.prog X.w X.xe _ ⟨.bl _,H,I,rfl,q _ H (gY.refl H) (.bl _)⟩
end
section
variable {X:Cx}{a k:Expr}{pos p2:Pos}
theorem v9 {K:gG}{H:Hp}:∀ {vs:List V} {ds:List Dt},Iss K H vs ds->∀ k,Iss K H (vs.drop k) (ds.drop k)
 | _,_,i,0=>by rw[List.drop_zero,List.drop_zero];exact i
 | _,_,.nil,_+1=>.nil
 | _,_,.cons i is,k+1=>v9 is k
theorem Ef (xs:List V)(k:Nat):uy xs (My (k:Int)) Rl=xs.drop k:=by
 unfold uy;rw[HT.vf,HT.nc];by_cases h:k<=xs.length
 ·rw[fA h,dP (by rw[bG];exact ar _)]
 ·rw[fi (by lia),Nat.sub_self,List.take_zero,List.drop_eq_nil_of_le (by lia)]
def dTk:Dt->Dt->gF Dt
 | .tup ds,.int i=>if 0<=i then My (.tup (ds.take i.toNat)) else Rl
 | _,_=>Rl
def dDp:Dt->Dt->gF Dt
 | .tup ds,.int i=>if 0<=i then My (.tup (ds.drop i.toNat)) else Rl
 | _,_=>Rl
theorem mI {ga gk:DE->gF Dt}(ha:PD X a ga)(hk:PD X k gk):PD X (.Subscript a (.Slice Rl (My k) Rl p2) pos) (hU dTk ga gk) :=
 (vg (Bs.or zc) ha yz (yA hk)).of λ σ H Q hz1=>by
  obtain⟨δ,d,S,e,q⟩:=hz1;obtain⟨x,e1,e2⟩:=gQ e;obtain⟨y,e3,e4⟩:=gQ e2;match x,y,e4 with
  | .tup ds,.int i,e4 =>
   by_cases h0:0<=i
   rotate_left
   ·exact absurd ((aq h0).symm.trans e4) (λ z=>by cases z)
   have e4:My (Dt.tup (ds.take i.toNat))=My d:=(ai h0).symm.trans e4;cases e4;obtain⟨n,rfl⟩:∃ n:Nat,i=n:=⟨i.toNat,by lia⟩;refine⟨δ,_,S,e1,λ v H1 s1 i1=>⟨δ,_,S.ext s1,e3,λ v2 H2 s2 i2=>?_⟩⟩;rw[i2.int_inv];obtain⟨p,xs,rfl,hp,is⟩:=(i1.ext s2).ip;refine⟨n,rfl,?_⟩;rw[bS]at q;by_cases c:xs.length<=n
   ·refine .inr ⟨p,xs,rfl,hp,⟨rfl,by rw[HT.nc];lia⟩,q _ _ (s1.trans s2) (.tup hp ?_)⟩;have:=vW is n;rw[dP c]at this;exact this
   ·refine .inl ⟨p,xs,rfl,hp,?_,λ p' hp'=>?_⟩
    ·rintro⟨_,z⟩;rw[HT.nc]at z;lia
    ·refine q _ _ ((s1.trans s2).trans (gY.upd hp')) (.tup (SqT.of gW) ?_);rw[D6];exact(vW is n).ext (gY.upd hp')
theorem nA {ga gk:DE->gF Dt}(ha:PD X a ga)(hk:PD X k gk):PD X (.Subscript a (.Slice (My k) Rl Rl p2) pos) (hU dDp ga gk) :=
 (vg (Bs.or zc) ha (yA hk) yz).of λ σ H Q hz1=>by
  obtain⟨δ,d,S,e,q⟩:=hz1;obtain⟨x,e1,e2⟩:=gQ e;obtain⟨y,e3,e4⟩:=gQ e2;match x,y,e4 with
  | .tup ds,.int i,e4 =>
   by_cases h0:0<=i
   rotate_left
   ·exact absurd ((aq h0).symm.trans e4) (λ z=>by cases z)
   have e4:My (Dt.tup (ds.drop i.toNat))=My d:=(ai h0).symm.trans e4;cases e4;obtain⟨n,rfl⟩:∃ n:Nat,i=n:=⟨i.toNat,by lia⟩;refine⟨δ,_,S,e1,λ v H1 s1 i1=>⟨δ,_,S.ext s1,e3,λ v2 H2 s2 i2=>?_⟩⟩;rw[i2.int_inv];obtain⟨p,xs,rfl,hp,is⟩:=(i1.ext s2).ip;refine⟨n,rfl,?_⟩;rw[bS]at q;by_cases c:n=0\/xs=[]
   ·refine .inr ⟨p,xs,rfl,hp,⟨by rw[HT.nc];rcases c with rfl | rfl<;>simp,rfl⟩,q _ _ (s1.trans s2) (.tup hp ?_)⟩
    have:=v9 is n;have e:xs.drop n=xs:=by rcases c with rfl | rfl<;>simp
    rw[e]at this;exact this
   ·refine .inl ⟨p,xs,rfl,hp,?_,λ p' hp'=>?_⟩
    ·rintro⟨z,_⟩
     rw[HT.nc]at z;have:xs.length=0\/n=0:=by lia
     rcases this with h | h
     ·exact c (.inr (fu h))
     ·exact c (.inl h)
    ·refine q _ _ ((s1.trans s2).trans (gY.upd hp')) (.tup (SqT.of gW) ?_);rw[Ef];exact(v9 is n).ext (gY.upd hp')
def NY (K:gG):R2:=λ x y H Q=>∃ a b ys,x=.ref a/\y=.ref b/\SqT K H a []/\SqT K H b ys/\Q (.ref b) H
theorem I9:OpR X (binaryOp .Add) (NY X.K):=by
 intro pins s σ H x y v u Q I rx ry h;obtain⟨a,b,ys,rfl,rfl,ha,hb,q⟩:=h;cases rx;cases ry;obtain⟨its,r1,⟨⟨cls,dd,data,sl⟩,ho,hc,n,hd⟩,_⟩:=I.tuple ha;obtain⟨its2,r2,⟨⟨cls2,dd2,data2,sl2⟩,ho2,hc2,n2,hd2⟩,_⟩:=I.tuple hb;cases r1;simp only at hc hd hc2 hd2;subst hc hd hc2 hd2;exact concat_meets ⟨_,ho,rfl⟩ ⟨_,ho2,rfl⟩ noFill_tuple_add seq_tuple_add eQ eG (eh _ _)
  (tuple_addW0 a b _ its2.toArray n n2 dd dd2 sl sl2 rfl) ⟨ho,ho2,⟨.ref b,H,I,rfl,q⟩⟩
def kF (x y:Dt):gF Dt:=(BV x).bind λ ds=>(BV y).bind λ es=>if ds.length+es.length<=1000 then My (.tup (ds++es)) else Rl
theorem kJ:OpR X (binaryOp .Add) (rD X.K kF):=by
 intro pins s σ H x y v u Q I rx ry hz;obtain⟨d,d',r,i,i',e,q⟩:=hz;obtain⟨ds,e1,f1⟩:=gQ e;obtain⟨es,e2,f2⟩:=gQ f1;obtain rfl:=nO e1;obtain rfl:=nO e2;by_cases hc:ds.length+es.length<=1000
 rotate_left
 ·rw[aq hc]at f2;cases f2
 rw[ai hc]at f2;cases f2;obtain⟨p,xs,rfl,hp,is⟩:=i.ip;obtain⟨p',ys,rfl,hq,js⟩:=i'.ip;by_cases h0:xs=[]
 ·subst h0;cases is;exact I9 pins s σ H _ _ v u Q I rx ry ⟨p,p',ys,rfl,rfl,hp,hq,q _ H (gY.refl H) i'⟩
 ·refine HG pins s σ H _ _ v u Q I rx ry ⟨p,p',xs,ys,rfl,rfl,hp,hq,h0,qg (by rw[is.length,js.length];exact hc),λ h=>?_,λ _ p2 hp2=>?_⟩
  ·subst h;cases js;rw[bt]at q;exact q _ H (gY.refl H) i
  ·exact q _ _ (gY.upd hp2) (.tup (SqT.of gW) ((is.append js).ext (gY.upd hp2)))
end
end L2
namespace L2
open PySem PySem.Spec PyProof.Rows Zp Qs
def l8 (F:List Nat)(t:Nat×Nat):List Nat:=if t.1∈F\/t.2∈F then F++[t.1,t.2].filter λ x=>!decide (x∈F) else F
def pA (l:gK)(F:List Nat):List Nat:=l.foldl l8 F
def nB (l:gK):Nat->List Nat->List Nat
 | 0,F=>F
 | n+1,F=>nB l n (pA l F)
def Clo (l:gK)(F:List Nat):Prop:=∀ t∈l,t.1∈F↔t.2∈F
theorem yd (F:List Nat)(t:Nat×Nat):∃ r,l8 F t=F++r:=by
 unfold l8;split
 ·exact⟨_,rfl⟩
 ·exact⟨[],(bt F).symm⟩
theorem sG:∀ (l:gK) (F:List Nat),∃ r,pA l F=F++r
 | [],F=>⟨[],(bt F).symm⟩
 | t::l,F=>by obtain⟨r1,e1⟩:=yd F t;obtain⟨r2,e2⟩:=sG l (l8 F t);exact⟨r1++r2,by show pA l (l8 F t)=_;rw[e2,e1,cw]⟩
theorem v_ {F:List Nat}{t:Nat×Nat}:l8 F t=F↔(t.1∈F↔t.2∈F):=by unfold l8;by_cases h1:t.1∈F<;>by_cases h2:t.2∈F<;>simp[h1,h2]
theorem qo:∀ {l:gK} {F:List Nat},pA l F=F↔Clo l F
 | [],F=>⟨λ _ t h=>(nomatch h),λ _=>rfl⟩
 | t::l,F=>by
  constructor
  ·intro h
   obtain⟨r1,e1⟩:=yd F t;obtain⟨r2,e2⟩:=sG l (l8 F t);have h:pA l (l8 F t)=F:=h;have e3:F++(r1++r2)=F:=by rw[<-cw,<-e1,<-e2,h]
   have e4:r1++r2=[]:=by simpa using e3
   have e5:r1=[]:=(List.append_eq_nil_iff.mp e4).1;rw[e5,bt]at e1;rw[e1]at h;intro u hu;rcases ax.mp hu with rfl | hu
   ·exact v_.mp e1
   ·exact qo.mp h u hu
  ·intro h;have e1:=v_.mpr (h t ay);show pA l (l8 F t)=F;rw[e1];exact qo.mpr λ u hu=>h u (aw _ hu)
theorem ye {l:gK}{F:List Nat}(h:Clo l F):∀ k,nB l k F=F
 | 0=>rfl
 | k+1=>by show nB l k (pA l F)=F;rw[qo.mpr h,ye h k]
theorem wc {l:gK}:∀ (k:Nat) (F:List Nat),Clo l (nB l k F)\/F.length+k<=(nB l k F).length
 | 0,F=>.inr (ar _)
 | k+1,F=>by
  by_cases c:pA l F=F
  ·left;have:=qo.mp c;show Clo l (nB l k (pA l F));rw[c,ye this];exact this
  ·obtain⟨r,e⟩:=sG l F
   have:1<=r.length:=by
    cases r with
    | nil=>rw[bt]at e;exact absurd e c
    | cons _ _=>simp
   have le:F.length+1<=(pA l F).length:=by rw[e,aC];lia
   rcases wc k (pA l F) with h | h
   ·exact .inl h
   ·right;show _<=(nB l k (pA l F)).length;lia
theorem AU {F:List Nat}{t:Nat×Nat}(h:F.Nodup)(ne:t.1≠t.2):(l8 F t).Nodup:=by
 unfold l8;split
 ·refine List.nodup_append.mpr ⟨h,?_,λ a ha b hb e=>?_⟩
  ·exact dY _ (bu.mpr ⟨by simpa using ne,by simp⟩)
  ·have:=(bg.mp hb).2;simp at this;exact this (e▸ha)
 ·exact h
set_option tactic.hygienic true in
theorem AV {F:List Nat}{t:Nat×Nat}{S:Nat->Prop}(h:∀ x∈F,S x)(ht:S t.1↔S t.2):∀ x∈l8 F t,S x:=by
 unfold l8;split
 ·rename_i c
  intro x hx;rcases aM.mp hx with hx | hx
  ·exact h x hx
  ·have:=(bg.mp hx).1
   have both:S t.1/\S t.2:=by
    rcases c with c | c
    ·exact⟨h _ c,ht.mp (h _ c)⟩
    ·exact⟨ht.mpr (h _ c),h _ c⟩
   simp at this;rcases this with rfl | rfl
   ·exact both.1
   ·exact both.2
 ·exact h
theorem zo:∀ {l:gK} {F:List Nat},F.Nodup->(∀ t∈l,t.1≠t.2)->(pA l F).Nodup
 | [],F,h,_=>h
 | t::l,F,h,ne=>zo (l:=l) (AU h (ne t ay)) λ u hu=>ne u (aw _ hu)
theorem zp {S:Nat->Prop}:∀ {l:gK} {F:List Nat},(∀ x∈F,S x)->(∀ t∈l,S t.1↔S t.2)->∀ x∈pA l F,S x
 | [],F,h,_=>h
 | t::l,F,h,ht=>zp (l:=l) (AV h (ht t ay)) λ u hu=>ht u (aw _ hu)
theorem AW {l:gK}(ne:∀ t∈l,t.1≠t.2):∀ (k:Nat) {F:List Nat},F.Nodup->(nB l k F).Nodup
 | 0,_,h=>h
 | k+1,_,h=>AW ne k (zo h ne)
theorem wd {l:gK}{S:Nat->Prop}(ht:∀ t∈l,S t.1↔S t.2):∀ (k:Nat) {F:List Nat},(∀ x∈F,S x)->∀ x∈nB l k F,S x
 | 0,_,h=>h
 | k+1,_,h=>wd ht k (zp h ht)
theorem yf {l:gK}:∀ (k:Nat) (F:List Nat),∃ r,nB l k F=F++r
 | 0,F=>⟨[],(bt F).symm⟩
 | k+1,F=>by obtain⟨r1,e1⟩:=sG l F;obtain⟨r2,e2⟩:=yf k (pA l F);exact⟨r1++r2,by show nB l k (pA l F)=_;rw[e2,e1,cw]⟩
def nW (l:gK)(n p:Nat):List Nat:=nB l n [p]
section
variable {l:gK}{n p:Nat}(ok:∀ t∈l,t.1<t.2/\t.2<n)(hp:p<n)
include ok hp
theorem GI:(nW l n p).Nodup:=AW (λ t ht=>by have:=ok t ht;lia) n (by simp)
theorem GJ:∀ x∈nW l n p,x<n:=wd (S:=λ x=>x<n) (λ t ht=>by have:=ok t ht;constructor<;>(intro _;lia)) n (by simpa using hp)
omit ok hp in
theorem GK:p∈nW l n p:=by obtain⟨r,e⟩:=yf (l:=l) n [p];show p∈nB l n [p];rw[e];simp
theorem Dh:(nW l n p).length<=n:=by have:=aK (GI ok hp) (l₂:=Ro n) λ x hx=>aD.mpr (GJ ok hp x hx);simpa using this
theorem I_:Clo l (nW l n p):=by
 rcases wc (l:=l) n [p] with h | h
 ·exact h
 ·have:=Dh ok hp;have h:1+n<=(nW l n p).length:=h;lia
omit ok hp in
theorem Mi {S:Nat->Prop}(ht:∀ t∈l,S t.1↔S t.2)(h0:S p):∀ x∈nW l n p,S x:=wd ht n (by simpa using h0)
end
abbrev jS:=jO
abbrev kP:=lP
def jg:DE->gF RD:=(kM (oy (nK (j9 (gTr (iU jX (gN (gS 1) (gN (gC (.ty "tuple")) gR))))) (nK (gB (hU oA (iU qv (gN (gS 1) gR)) (gC (.int 2)))) (j9 (gTr (iU uC (gN (gLC ["_law_one"] [] (gI k_ (gS 1)) (ggN 0) jU (iq 1 jS (gN (gS 0) gR))) gR)))))) (kN (gC (.bl Rn))) kZ) (kN (zj (dIB λ i j=>decide (i<=j)) (dIB λ i j=>decide (i<j)) (dIB λ i j=>decide (i<j)) (gC (.int 0)) (hU dIx (gS 1) (gC (.int 0))) (hU dIx (gS 1) (gC (.int 1))) (gS 0))))
abbrev xq:List Str:=["_law_many","_law_thing"]
theorem GL {d:Dt}(h:kdB d=Rm):jS [d]=My (.bl (whB d)):=by obtain⟨k,e⟩:=pW h;show((mz d).map λ _=>Dt.bl (whB d))=_;rw[e];rfl
set_option tactic.hygienic true in
theorem we:Hg 2 xq kP jg:=by
 intro ds d hl h;obtain⟨m,x,rfl,h1⟩:=nN h;obtain⟨n,e0,h2⟩:=gQ h1;clear h h1;by_cases hx:kT x=Rm
 rotate_left
 ·rw[aq hx]at h2;cases h2
 rw[ai hx]at h2;cases h2;rw[lX e0];refine⟨.rt (.bl (jw n x)),?_,rfl⟩;match x,hx with
 | .tup [a,b],hx =>
  have ka:kdB a=Rm:=by simp[kT]at hx;exact hx.1
  have kb:kdB b=Rm:=by simp[kT]at hx;exact hx.2
  have wa:=GL ka;have wb:=GL kb;have iT:jX [.tup [a,b],.ty "tuple"]=My (.bl Rm):=rfl;have ln:qv [.tup [a,b]]=My (.int 2):=rfl;have lc:qP (ggN 0) jU (iq 1 jS (gN (gS 0) gR)) [Rl] [a,b]=My [.bl (whB a),.bl (whB b)]:=by
   have:=rV (enc:=id) (gg:=ggN 0) (ge:=iq 1 jS (gN (gS 0) gR)) (δc:=[Rl]) (δa:=λ d=>[My d]) (enc':=λ d=>.bl (whB d)) [a,b] λ d hd=>⟨rfl,by
    rcases ax.mp hd with rfl | hd
    ·simp[wa]
    ·rw[aV.mp hd];simp[wb]⟩
   exact this
  have al:uC [.lst [.bl (whB a),.bl (whB b)]]=My (.bl (whB a&&whB b)):=by show My (Dt.bl (whB a&&(whB b&&Rm)))=_;rw[dB]
  show jg [My (.int n),My (.tup [a,b])]=_;by_cases c:(whB a&&whB b)=Rm
  ·rw[c]at al
   rw[aU]at c;cases a<;>first | (cases c.1;done) | skip
   cases b<;>first | (cases c.2;done) | skip
   rename_i i j;have i0:dIx (.tup [.int i,.int j]) (.int 0)=My (.int i):=rfl;have i1:dIx (.tup [.int i,.int j]) (.int 1)=My (.int j):=rfl;have e:jw n (.tup [.int i,.int j])=decide (0<=i/\i<j/\j<n):=rfl;rw[e];by_cases c1:0<=i
   ·by_cases c2:i<j
    ·by_cases c3:j<n<;>simp[jg,iT,ln,lc,al,i0,i1,c1,c2,c3]
    ·simp[jg,iT,ln,lc,al,i0,i1,c1,c2]
   ·simp[jg,iT,ln,lc,al,i0,i1,c1]
  ·have e:jw n (.tup [a,b])=Rn:=by
    cases a<;>first | rfl | skip
    cases b<;>first | rfl | skip
    exact absurd rfl c
   rw[bw]at c;rw[c]at al;rw[e];simp[jg,iT,ln,lc,al]
 | .tup [],_=>rfl
 | .tup [a],_=>cases a<;>rfl
 | .tup (a::b::c::r),hx =>
  have iT:jX [.tup (a::b::c::r),.ty "tuple"]=My (.bl Rm):=rfl;have ln:qv [.tup (a::b::c::r)]=My (.int ((r.length:Int)+3)):=by show My (Dt.int (((a::b::c::r).length:Nat):Int))=_;simp;lia
  have ne:¬ ((r.length:Int)+3=2):=by lia
  have e:jw n (.tup (a::b::c::r))=Rn:=by cases a<;>first | rfl | (cases b<;>rfl)
  rw[e];show jg [My (.int n),My (.tup (a::b::c::r))]=_;generalize (r.length:Int)+3=z,Dt.tup (a::b::c::r)=t at *;simp[jg,iT,ln,ne]
 | .non,_=>rfl
 | .bl _,_=>rfl
 | .int _,_=>rfl
 | .str _,_=>rfl
 | .lst _,_=>rfl
 | .dct _,_=>rfl
theorem jY {g g':DE->gF RD}{δ δ':DE}(h:g δ=My (.nx δ')):kM g g' δ=g' δ':=by unfold kM;rw[h];rfl
def mB:DE->gF RD:=(oy (nK (gB (hU (dIn Rn) (gS 5) (gS 3))) (gB (hU (dIn Rn) (gS 6) (gS 3)))) (lq 3 (hU qu (gS 3) (gLC ["_law_place"] [3] (gI k_ (i9 (gN (gS 5) (gN (gS 6) gR)))) (ggN 0) (gB (hU (dIn Rm) (gS 0) (gS 1))) (gS 0)))) kZ)
def oN:DE->gF RD:=(kM (lq 3 (lz (gN (gS 2) gR))) (kM (BQ (nP (gN (gS 0) gR)) (ggN 4) (BQ (gI k_ (gS 1)) (nM 5 6) mB)) (kN (iU (rS srt) (gN (gS 3) gR)))))
abbrev Cc:List Str:=["_law_many","_law_ties","_law_first","_law_found","_law_turn","_law_one","_law_other"]
def oO:List Dt->gF Dt
 | [x,y,z]=>(lY x).bind λ n=>(dTs y).bind λ l=>(lY z).bind λ p=>if (n<=8/\p<n)/\(l.length<=1000/\∀ t∈l,t.1<t.2/\t.2<n) then My (.lst ((srt ((nW l n p).map λ(k:Nat)=>(k:Int))).map .int)) else Rl
 | _=>Rl
theorem wg (neg:Bool)(k:Nat)(l:List Nat):dIn neg (gO k) (.lst (l.map gO))=My (.bl (if neg then !decide (k∈l) else decide (k∈l))):=IF neg k l
theorem NZ {F:List Nat}{a b:Nat}(hF:F.length<=900)(x0 x1 x2 x4:gF Dt):mB [x0,x1,x2,My (.lst (F.map gO)),x4,My (gO a),My (gO b)]=My (.nx [x0,x1,x2,My (.lst ((l8 F (a,b)).map gO)),x4,My (gO a),My (gO b)]):=by
 have ia:=wg Rn a F;have ib:=wg Rn b F;rw[aq au]at ia ib;have lc:=la (enc:=gO) (gg:=ggN 0) (gt:=gB (hU (dIn Rm) (gS 0) (gS 1))) (ge:=gS 0) (δc:=[Rl,My (.lst (F.map gO))]) (δa:=λ k=>[My (gO k),My (.lst (F.map gO))]) (p:=λ x=>!decide (x∈F)) (enc':=gO) [a,b] λ k _=>⟨rfl,by have:=wg Rm k F;rw[ai rfl]at this;generalize gO k=nk,Dt.lst (F.map gO)=fl at *;simp[this],λ _=>rfl⟩
 have lc:qP (ggN 0) (gB (hU (dIn Rm) (gS 0) (gS 1))) (gS 0) [Rl,My (.lst (F.map gO))] [gO a,gO b]=My (([a,b].filter λ x=>!decide (x∈F)).map gO):=lc;have le:([a,b].filter λ x=>!decide (x∈F)).length<=2:=fb _ _;have ct:qu (.lst (F.map gO)) (.lst (([a,b].filter λ x=>!decide (x∈F)).map gO))=My (.lst ((F++[a,b].filter λ x=>!decide (x∈F)).map gO)):=by show(if (F.map gO).length+(([a,b].filter λ x=>!decide (x∈F)).map gO).length<=1000 then My (Dt.lst (F.map gO++([a,b].filter λ x=>!decide (x∈F)).map gO)) else Rl)=_;rw[ai (by rw[ah,ah];lia),bD]
 unfold l8;by_cases c:a∈F\/b∈F
 ·rw[ai c]
  generalize gO b=nb,gO a=na,Dt.lst (F.map gO)=fl,([a,b].filter λ x=>!decide (x∈F)).map gO=r2,Dt.lst ((F++[a,b].filter λ x=>!decide (x∈F)).map gO)=r at *;by_cases c1:a∈F
  ·rw[decide_eq_true c1]at ia;simp[mB,ia,lc,ct]
  ·have c2:b∈F:=c.resolve_left c1;rw[decide_eq_false c1]at ia;rw[decide_eq_true c2]at ib;simp[mB,ia,ib,lc,ct]
 ·rw[aq c];have c1:a∉F:=λ z=>c (.inl z);have c2:b∉F:=λ z=>c (.inr z);rw[decide_eq_false c1]at ia;rw[decide_eq_false c2]at ib;generalize gO b=nb,gO a=na,Dt.lst (F.map gO)=fl at *;simp[mB,ia,ib]
theorem Mj {F:List Nat}{n:Nat}(h:F.Nodup)(hl:∀ x∈F,x<n):F.length<=n:=by have:=aK h (l₂:=Ro n) λ x hx=>aD.mpr (hl x hx);simpa using this
theorem yg {n:Nat}(h8:n<=8)(x0 x1 x2 x4:gF Dt):∀ (ts:gK) (F:List Nat) (x5 x6:gF Dt),(∀ t∈ts,t.1<t.2/\t.2<n)->F.Nodup->(∀ x∈F,x<n) ->
  ∃ y5 y6,my (nM 5 6) mB [x0,x1,x2,My (.lst (F.map gO)),x4,x5,x6] (ts.map g6)=My (.nx [x0,x1,x2,My (.lst ((pA ts F).map gO)),x4,y5,y6])
 | [],F,x5,x6,_,_,_=>⟨x5,x6,rfl⟩
 | t::ts,F,x5,x6,ok,nd,lt=>by have st:=NZ (F:=F) (a:=t.1) (b:=t.2) (by have:=Mj nd lt;lia) x0 x1 x2 x4;have o1:=ok t ay;obtain⟨y5,y6,ih⟩:=yg h8 x0 x1 x2 x4 ts (l8 F t) (My (gO t.1)) (My (gO t.2)) (λ u hu=>ok u (aw _ hu)) (AU nd (by lia)) (AV (S:=λ x=>x<n) lt (by constructor<;>(intro _;lia)));refine⟨y5,y6,?_⟩;rw[aS,my];show(mB [x0,x1,x2,My (.lst (F.map gO)),x4,My (gO t.1),My (gO t.2)]).bind _=_;rw[st,aB];exact ih
theorem yh {n:Nat}(h8:n<=8){l:gK}(ok:∀ t∈l,t.1<t.2/\t.2<n)(y:Dt)(hy:k_ y=My (l.map g6))(hl:l.length<=1000)(x0 x2:gF Dt):∀ (ks:List Nat) (F:List Nat) (x4 x5 x6:gF Dt),F.Nodup->(∀ x∈F,x<n) ->
  ∃ y4 y5 y6,my (ggN 4) (BQ (gI k_ (gS 1)) (nM 5 6) mB) [x0,My y,x2,My (.lst (F.map gO)),x4,x5,x6] (ks.map gO)=My (.nx [x0,My y,x2,My (.lst ((nB l ks.length F).map gO)),y4,y5,y6])
 | [],F,x4,x5,x6,_,_=>⟨x4,x5,x6,rfl⟩
 | k::ks,F,x4,x5,x6,nd,lt=>by obtain⟨z5,z6,st⟩:=yg h8 x0 (My y) x2 (My (gO k)) l F x5 x6 ok nd lt;obtain⟨y4,y5,y6,ih⟩:=yh h8 ok y hy hl x0 x2 ks (pA l F) (My (gO k)) z5 z6 (zo nd λ t ht=>by have:=ok t ht;lia) (zp (S:=λ x=>x<n) lt λ t ht=>by have:=ok t ht;constructor<;>(intro _;lia));refine⟨y4,y5,y6,?_⟩;rw[aS,my];show(((My y).bind k_).bind λ ds=>my (nM 5 6) mB [x0,My y,x2,My (.lst (F.map gO)),My (gO k),x5,x6] ds).bind _=_;rw[aB,hy,aB,st,aB];exact ih
theorem GN {R:List Nat}(h:R.length<64):rS srt [.lst (R.map gO)]=My (.lst ((srt (R.map λ(k:Nat)=>(k:Int))).map .int)):=by
 have e:R.map gO=(R.map λ(k:Nat)=>(k:Int)).map Dt.int:=by rw[bq];rfl
 show(if (R.map gO).length<64 then (nu (R.map gO)).map λ l=>Dt.lst ((srt l).map .int) else Rl)=_;rw[ai (by rw[ah];exact h),e,qh];rfl
theorem Eg {y:Dt}{l:gK}(h:dTs y=My l):k_ y=My (l.map g6):=by
 obtain⟨ds,e1,e2⟩:=gQ h;rw[mX e2]at e1;cases y<;>first | (cases e1;done) | skip
 all_goals (cases e1;rfl)
theorem AX:Hg 3 Cc oO oN:=by
 intro ds d hl h;match ds,h with
 | [x,y,z],h =>
  obtain⟨n,e1,h⟩:=gQ (show(lY x).bind _=_ from h);obtain⟨l,e2,h⟩:=gQ h;obtain⟨p,e3,h⟩:=gQ h;by_cases hc:(n<=8/\p<n)/\(l.length<=1000/\∀ t∈l,t.1<t.2/\t.2<n)
  rotate_left
  ·rw[aq hc]at h;cases h
  rw[ai hc]at h;cases h;obtain⟨⟨h8,hp⟩,hl,ok⟩:=hc;rw[lC e1,lC e3];have r1:Ah [gO n]=My ((Ro n).map gO):=AA (n:=n) (by lia);obtain⟨y4,y5,y6,lp⟩:=yh h8 ok y (Eg e2) hl (My (gO n)) (My (gO p)) (Ro n) [p] Rl Rl Rl (by simp) (by simpa using hp);rw[b_]at lp;have sr:=GN (R:=nW l n p) (by have:=Dh ok hp;lia);refine⟨.rt (.lst ((srt ((nW l n p).map λ(k:Nat)=>(k:Int))).map .int)),?_,rfl⟩;show oN [My (gO n),My y,My (gO p),Rl,Rl,Rl,Rl]=_;have lp:my (ggN 4) (BQ (gI k_ (gS 1)) (nM 5 6) mB) [My (gO n),My y,My (gO p),My (.lst [gO p]),Rl,Rl,Rl] ((Ro n).map gO)=My (.nx [My (gO n),My y,My (gO p),My (.lst ((nW l n p).map gO)),y4,y5,y6]):=lp;generalize gO p=np,gO n=nn,(Ro n).map gO=rr,Dt.lst ((nW l n p).map gO)=ff,Dt.lst ((srt ((nW l n p).map λ(k:Nat)=>(k:Int))).map .int)=res at *;unfold oN;rw[jY (show lq 3 (lz (gN (gS 2) gR)) [My nn,My y,My np,Rl,Rl,Rl,Rl]=My (.nx [My nn,My y,My np,My (.lst [np]),Rl,Rl,Rl]) by simp)];rw[jY (δ':=[My nn,My y,My np,My ff,y4,y5,y6]) (by show(((gN (gS 0) gR) [My nn,My y,My np,My (.lst [np]),Rl,Rl,Rl]).bind Ah).bind _=_;rw[show(gN (gS 0) gR) [My nn,My y,My np,My (.lst [np]),Rl,Rl,Rl]=My [nn] from rfl,aB,r1,aB];exact lp)];simp[sr]
theorem Ja {l m:List Int}(h:l.Perm m)(hs:l.Pairwise (·<=·)):l=srt m :=
 List.Perm.eq_of_pairwise (le:=λ a b:Int=>decide (a<=b)) (λ a b _ _ h1 h2=>by simp at h1 h2;lia) (hs.imp λ h=>by simpa using h) ((oD m).imp λ h=>by simpa using h) (h.trans (pO m).symm)
theorem zq (n:Nat):((Ro n).map λ(k:Nat)=>(k:Int)).Pairwise (·<=·):=by rw[bp];exact dO.imp λ h=>by lia
theorem GO {l m:List Nat}(h1:l.Nodup)(h2:m.Nodup)(h:∀ t,t∈l↔t∈m):l.Perm m:=by
 rw[List.perm_iff_count];intro a;by_cases c:a∈l
 ·rw[h1.count,h2.count,ai c,ai ((h a).mp c)]
 ·rw[h1.count,h2.count,aq c,aq λ z=>c ((h a).mpr z)]
theorem GP {l:gK}{n:Nat}(ok:∀ t∈l,t.1<t.2/\t.2<n)(h0:0<n):srt ((nW l n 0).map λ(k:Nat)=>(k:Int))=(Ro n).map (λ(k:Nat)=>(k:Int))↔NL l n:=by
 constructor
 ·intro h S s0 cl v hv
  refine Mi (l:=l) (n:=n) cl s0 v ?_;have:(v:Int)∈srt ((nW l n 0).map λ(k:Nat)=>(k:Int)):=by rw[h];exact aA.mpr ⟨v,aD.mpr hv,rfl⟩
  obtain⟨k,hk,e⟩:=aA.mp ((pO _).mem_iff.mp this);have:k=v:=by lia
  exact this▸hk
 ·intro h;symm;refine Ja ?_ (zq n);refine(GO cM (GI ok h0) λ t=>?_).map _;rw[aD];exact⟨λ ht=>h (·∈nW l n 0) GK (I_ ok h0) t ht,GJ ok h0 t⟩
def shW:Dt->Bool
 | .tup [_,.tup ts]=>decide (ts.length<=40)
 | _=>Rm
def kQ:List Dt->gF Dt:=tN λ x=>if okW x=Rm/\shW x=Rm then My (.bl (ju x)) else Rl
def iZ:DE->gF RD:=(kM (oy (nK (j9 (gTr (iU jX (gN (gS 0) (gN (gC (.ty "tuple")) gR))))) (nK (gB (hU oA (iU qv (gN (gS 0) gR)) (gC (.int 2)))) (nK (j9 (gTr (iq 1 jS (gN (hU dIx (gS 0) (gC (.int 0))) gR)))) (j9 (gB (pK (dIB λ i j=>decide (i<=j)) (dIB λ i j=>decide (i<=j)) (gC (.int 2)) (hU dIx (gS 0) (gC (.int 0))) (gC (.int 8)))))))) (kN (gC (.bl Rn))) kZ) (kM (oy (nK (j9 (gTr (iU jX (gN (hU dIx (gS 0) (gC (.int 1))) (gN (gC (.ty "tuple")) gR))))) (j9 (gTr (iU uC (gN (gLC ["_law_tie"] [0] (gI k_ (hU dIx (gS 0) (gC (.int 1)))) (ggN 0) jU (iq 2 kP (gN (hU dIx (gS 1) (gC (.int 0))) (gN (gS 0) gR)))) gR))))) (kN (gC (.bl Rn))) kZ) (kM (oy (gB (hU Mg (iU oE (gN (hU dIx (gS 0) (gC (.int 1))) gR)) (gUn dSS (hU dIx (gS 0) (gC (.int 1)))))) (kN (gC (.bl Rn))) kZ) (kN (hU Mh (iq 3 oO (gN (hU dIx (gS 0) (gC (.int 0))) (gN (hU dIx (gS 0) (gC (.int 1))) (gN (gC (.int 0)) gR)))) (gUn yY (hU dIx (gS 0) (gC (.int 0)))))))))
abbrev xr:List Str:=["_law_thing"]
theorem Ml (n:Int){d:Dt}(h:kT d=Rm):kP [.int n,d]=My (.bl (jw n d)):=GB n h
theorem wj:Hg 1 xr kQ iZ:=by
 intro ds d hl h;obtain⟨x,rfl,h1⟩:=kf h;clear h;by_cases hx:okW x=Rm/\shW x=Rm
 rotate_left
 ·rw[aq hx]at h1;cases h1
 rw[ai hx]at h1;cases h1;obtain⟨hx,hs⟩:=hx;refine⟨.rt (.bl (ju x)),?_,rfl⟩;match x,hx,hs with
 | .tup [m,t],hx,hs =>
  show iZ [My (.tup [m,t])]=_;have iT:jX [.tup [m,t],.ty "tuple"]=My (.bl Rm):=rfl;have ln:qv [.tup [m,t]]=My (.int 2):=rfl;have i0:dIx (.tup [m,t]) (.int 0)=My m:=rfl;have i1:dIx (.tup [m,t]) (.int 1)=My t:=rfl;have km:kdB m=Rm/\kdB t=Rm:=by cases t<;>simp_all[okW,kdB,mz]
  obtain⟨k2,ek2⟩:=pW km.2;have wm:=GL km.1;by_cases c1:whB m=Rm
  rotate_left
  ·have e:ju (.tup [m,t])=Rn:=by cases m<;>first | rfl | (exact absurd rfl c1)
   rw[bw]at c1;rw[c1]at wm;rw[e];generalize Dt.tup [m,t]=mt at *;simp[iZ,iT,ln,i0,wm]
  rw[c1]at wm;obtain⟨n,rfl⟩:∃ n,m=.int n:=by cases m<;>first | exact⟨_,rfl⟩ | cases c1
  by_cases c2:2<=n/\n<=8
  rotate_left
  ·have e:ju (.tup [.int n,t])=Rn:=by
    cases t<;>first | rfl | (simp[ju,c2])
   rw[e];generalize Dt.tup [.int n,t]=mt at *;by_cases c3:2<=n
   ·have c4:¬ n<=8:=λ z=>c2 ⟨c3,z⟩;simp[iZ,iT,ln,i0,wm,c3,c4]
   ·simp[iZ,iT,ln,i0,wm,c3]
  obtain⟨h2,h8⟩:=c2;by_cases c3:∃ ts,t=.tup ts
  rotate_left
  ·have e:ju (.tup [.int n,t])=Rn:=by
    cases t<;>first | rfl | (exact absurd ⟨_,rfl⟩ c3)
   have iF:jX [t,.ty "tuple"]=My (.bl Rn):=by cases t<;>first | rfl | (exact absurd ⟨_,rfl⟩ c3) | cases ek2
   rw[e];generalize Dt.tup [.int n,t]=mt at *;simp[iZ,iT,ln,i0,i1,wm,h2,h8,iF]
  obtain⟨ts,rfl⟩:=c3;have ok:ts.length<=1000/\ts.all kT=Rm:=by simpa [okW,kdB,mz] using hx
  have h40:ts.length<=40:=by simpa [shW] using hs
  obtain⟨hlen,hk⟩:=ok;rw[bN]at hk;have iT2:jX [.tup ts,.ty "tuple"]=My (.bl Rm):=rfl;have lc:=rV (enc:=id) (gg:=ggN 0) (ge:=iq 2 kP (gN (hU dIx (gS 1) (gC (.int 0))) (gN (gS 0) gR))) (δc:=[Rl,My (.tup [.int n,.tup ts])]) (δa:=λ d=>[My d,My (.tup [.int n,.tup ts])]) (enc':=λ d=>.bl (jw n d)) ts λ d hd=>⟨rfl,by have:=Ml n (hk d hd);generalize Dt.tup [.int n,.tup ts]=mt at *;simp[i0,this]⟩
  have e2:(ts.map λ d=>Dt.bl (jw n d))=(ts.map (jw n)).map Dt.bl:=by simp
  rw[cT,e2]at lc;have e3:(ts.map (jw n)).all id=ts.all (jw n):=by rw[eV];rfl
  have al:uC [.lst ((ts.map (jw n)).map Dt.bl)]=My (.bl (ts.all (jw n))):=by rw[<-e3];generalize ts.map (jw n)=bs;simp[uC,qR]
  by_cases c4:ts.all (jw n)=Rm
  rotate_left
  ·have e:ju (.tup [.int n,.tup ts])=Rn:=by
    rw[bw]at c4;simp[ju,c4]
   rw[bw]at c4;rw[c4]at al;rw[e];generalize Dt.tup [.int n,.tup ts]=mt,(ts.map (jw n)).map Dt.bl=bs at *;simp[iZ,iT,ln,i0,i1,wm,h2,h8,iT2,lc,al,hlen]
  rw[c4]at al;obtain⟨et,ok⟩:=vZ c4;have et':iJ (ts.map iR)=.tup ts:=by show Dt.tup ((ts.map iR).map g6)=_;rw[<-et]
  have lo:oE [.tup ts]=My (.lst ((ts.map iR).map g6)):=by rw[<-et];rfl
  have ss:dSS (.tup ts)=My (.lst ((ssP (ts.map iR)).map g6)):=by rw[<-et'];show(dTt (iJ (ts.map iR))).bind (λ l=>if l.length<=40 then My (Dt.lst ((ssP l).map g6)) else Rl)=_;rw[uR,aB,ai (by rw[ah];exact h40)]
  have ne:Mg (.lst ((ts.map iR).map g6)) (.lst ((ssP (ts.map iR)).map g6))=My (.bl (!rise (ts.map iR))):=by show(xk ((ts.map iR).map g6)).bind (λ l=>(xk ((ssP (ts.map iR)).map g6)).bind λ m=>My (Dt.bl (!decide (l=m))))=_;rw[rY,rY,aB,aB];congr 3;rw[bC,decide_eq_true_iff];exact IY _
  by_cases c5:rise (ts.map iR)=Rm
  rotate_left
  ·have e:ju (.tup [.int n,.tup ts])=Rn:=by
    rw[bw]at c5;simp[ju,c5]
   rw[bw]at c5;rw[c5]at ne;rw[e];generalize Dt.tup [.int n,.tup ts]=mt,Dt.lst ((ssP (ts.map iR)).map g6)=a2,Dt.lst ((ts.map iR).map g6)=a1,(ts.map (jw n)).map Dt.bl=bs at *;simp[iZ,gUn,iT,ln,i0,i1,wm,h2,h8,iT2,lc,al,hlen,lo,ss,ne]
  obtain⟨k,rfl⟩:∃ k:Nat,n=k:=⟨n.toNat,by lia⟩;have okN:∀ p∈ts.map iR,p.1<p.2/\p.2<k:=λ p hp=>by have:=ok p hp;lia
  have mt:oO [.int k,.tup ts,.int 0]=My (.lst ((srt ((nW (ts.map iR) k 0).map λ(k:Nat)=>(k:Int))).map .int)):=by rw[<-et'];show(lY (gO k)).bind (λ n=>(dTs (iJ (ts.map iR))).bind λ l=>(lY (gO 0)).bind λ p=>if (n<=8/\p<n)/\(l.length<=1000/\∀ t∈l,t.1<t.2/\t.2<n) then My (Dt.lst ((srt ((nW l n p).map λ(k:Nat)=>(k:Int))).map .int)) else Rl)=_;rw[jW,uS,jW,aB,aB,aB,ai ⟨⟨by lia,by lia⟩,by rw[ah];exact hlen,okN⟩]
  have lr:yY (.int (k:Int))=My (.lst (((Ro k).map λ(k:Nat)=>(k:Int)).map .int)):=by show(if _ then _ else _)=_;rw[ai (by lia),bq];rfl
  have eq:Mh (.lst ((srt ((nW (ts.map iR) k 0).map λ(k:Nat)=>(k:Int))).map .int)) (.lst (((Ro k).map λ(k:Nat)=>(k:Int)).map .int))=My (.bl (decide (((bfs (ts.map iR) 0).length:Int)=k))):=by show(nu _).bind (λ l=>(nu _).bind λ m=>My (Dt.bl (decide (l=m))))=_;rw[qh,qh,aB,aB];congr 2;rw[decide_eq_decide,GP okN (by lia),<-Gb okN (by lia)];lia
  have e:ju (.tup [.int k,.tup ts])=decide (((bfs (ts.map iR) 0).length:Int)=k):=by simp[ju,c4,c5,h2,h8]
  rw[c5]at ne;rw[e];generalize (k:Int)=kk,Dt.tup [.int k,.tup ts]=mt',Dt.lst ((ssP (ts.map iR)).map g6)=a2,Dt.lst ((ts.map iR).map g6)=a1,(ts.map (jw k)).map Dt.bl=bs,Dt.lst (((Ro k).map λ(k:Nat)=>(k:Int)).map .int)=a4,Dt.lst ((srt ((nW (ts.map iR) k 0).map λ(k:Nat)=>(k:Int))).map .int)=a3,decide (((bfs (ts.map iR) 0).length:Int)=k)=z at *;simp[iZ,gUn,iT,ln,i0,i1,wm,h2,h8,iT2,lc,al,hlen,lo,ss,ne,mt,lr,eq]
 | .tup [],_,_=>rfl
 | .tup [a],_,_=>cases a<;>rfl
 | .tup (a::b::c::r),hx,_ =>
  have iT:jX [.tup (a::b::c::r),.ty "tuple"]=My (.bl Rm):=rfl;have ln:qv [.tup (a::b::c::r)]=My (.int ((r.length:Int)+3)):=by show My (Dt.int (((a::b::c::r).length:Nat):Int))=_;simp;lia
  have ne:¬ ((r.length:Int)+3=2):=by lia
  have e:ju (.tup (a::b::c::r))=Rn:=by cases a<;>first | rfl | (cases b<;>rfl)
  rw[e];show iZ [My (.tup (a::b::c::r))]=_;generalize (r.length:Int)+3=z,Dt.tup (a::b::c::r)=t at *;simp[iZ,iT,ln,ne]
 | .non,_,_=>rfl
 | .bl _,_,_=>rfl
 | .int _,_,_=>rfl
 | .str _,_,_=>rfl
 | .lst _,_,_=>rfl
 | .dct _,_,_=>rfl
abbrev sH:=pV
theorem xt:Hg 1 ["_law_found"] jS sH:=sF
end L2
namespace K01
open PySem PySem.Spec PyProof.Rows L2 Zp
def top (i:Nat):Stmt:=PySem.Challenge.pw_treewalkers_k01_what_is_a_web.main.body.getD i (.Pass ⟨0,0,0,0⟩)
abbrev wk:Stmt:=top 18
abbrev wo:Stmt:=top 22
abbrev AY:Stmt:=top 23
abbrev uk:Stmt:=top 24
abbrev yi:Stmt:=top 25
abbrev um:Stmt:=top 26
abbrev AZ:Stmt:=top 27
abbrev uo:Stmt:=top 28
abbrev qE:Stmt:=top 29
abbrev sI:Stmt:=top 30
abbrev Di:Stmt:=top 31
abbrev pX:Stmt:=top 33
abbrev wq:Stmt:=top 34
abbrev uq:Stmt:=top 35
abbrev sJ:Stmt:=top 36
abbrev l9:Stmt:=top 37
abbrev ur:Stmt:=top 38
abbrev wu:Stmt:=top 39
abbrev qF:Stmt:=top 40
abbrev qG:Stmt:=top 41
abbrev qW:Stmt:=top 42
abbrev hV:Stmt:=top 43
abbrev jZ:Stmt:=top 44
abbrev wx:Stmt:=top 45
abbrev uu:Stmt:=top 46
abbrev mY:Stmt:=top 47
theorem A0:iI ["thing"] ["thing"] (gZ wk):=by trivial
theorem A1:iI ["many","thing"] ["many","thing"] (gZ wo):=by trivial
theorem Eh:iI ["many","thing","a","b"] ["many","thing"] (gZ AY):=by trivial
theorem zr:iI ["things"] ["things"] (gZ uk):=by trivial
theorem qX:iI ["ties","place","lesser","greater"] ["ties","place"] (gZ yi):=by trivial
theorem lJ:iI ["ties","start","found","edge","beyond","place","near"] ["ties","start"] (gZ um):=by trivial
theorem yj:iI ["thing","many","ties"] ["thing"] (gZ AZ):=by trivial
theorem zu:iI ["thing"] ["thing"] (gZ uo):=by trivial
theorem wy:iI ["web","thing"] ["web","thing"] (gZ qE):=by trivial
theorem xu:iI ["web","place"] ["web","place"] (gZ sI):=by trivial
theorem GQ:iI ["web","a","b"] ["web","a","b"] (gZ Di):=by trivial
theorem uI:iI ["_law_script","_law_k"] ["_law_script","_law_k"] (gZ pX):=by trivial
theorem l_:iI ["_law_cell","_law_number","_law_j","_law_mixed"] ["_law_cell"] (gZ wq):=by trivial
theorem sL:iI ["_law_pot_here","_law_far_here","_law_found"] ["_law_pot_here","_law_far_here"] (gZ uq):=by trivial
theorem xw:iI ["_law_found"] ["_law_found"] (gZ sJ):=by trivial
theorem kC:iI ["_law_e","_law_some","_law_words"] ["_law_e"] (gZ l9):=by trivial
theorem zv:iI ["_law_web_here","_law_place"] ["_law_web_here","_law_place"] (gZ ur):=by trivial
theorem pY:iI ["_law_many","_law_ties","_law_first","_law_found","_law_turn","_law_one","_law_other"] ["_law_many","_law_ties","_law_first"] (gZ wu):=by trivial
theorem wz:iI ["_law_many","_law_thing"] ["_law_many","_law_thing"] (gZ qF):=by trivial
theorem wG:iI ["_law_thing"] ["_law_thing"] (gZ qG):=by trivial
theorem ji:iI ["_law_pot_here","_law_most","_law_thick","_law_many","_law_shape","_law_extra","_law_left","_law_called","_law_ties","_law_place","_law_drawn_one","_law_turn","_law_one","_law_other"] ["_law_pot_here","_law_most","_law_thick"] (gZ qW):=by trivial
theorem iQ:iI ["_law_pot_here","_law_web_here","_law_many","_law_ties","_law_at","_law_which","_law_odd","_law_one","_law_other","_law_tie","_law_bent_here","_law_some"] ["_law_pot_here","_law_web_here"] (gZ hV):=by trivial
theorem tU:iI ["_law_pot_here","_law_web_here"] ["_law_pot_here","_law_web_here"] (gZ jZ):=by trivial
theorem uv:iI ["_law_web_here","_law_first","_law_found","_law_lap","_law_place","_law_other"] ["_law_web_here","_law_first"] (gZ wx):=by trivial
theorem zw:iI ["_law_door","_law_web_here","_law_a","_law_b","_law_e"] ["_law_door","_law_web_here","_law_a","_law_b"] (gZ uu):=by trivial
theorem lK:iI ["_law_script","_law_k","_law_pot_here","_law_web_here","_law_a","_law_b","_law_none","_law_thing","_law_kept","_law_good","_law_found","_law_told","_law_lap","_law_due","_law_odd"] ["_law_script"] (gZ mY):=by trivial
set_option genInjectivity false in
set_option genSizeOf false in
structure Txt (K:gG)(mg:gD) where
 mZ:FnT K mg "is_whole" wk ["thing"]
 m6:FnT K mg "is_place" wo ["many","thing"]
 sM:FnT K mg "is_tie" AY ["many","thing"]
 nC:FnT K mg "is_rising" uk ["things"]
 qp:FnT K mg "tied_to" yi ["ties","place"]
 ma:FnT K mg "distances" um ["ties","start"]
 j4:FnT K mg "is_web" AZ ["thing"]
 nD:FnT K mg "check_web" uo ["thing"]
 kR:FnT K mg "check_place" qE ["web","thing"]
 oP:FnT K mg "neighbours" sI ["web","place"]
 zx:FnT K mg "apart" Di ["web","a","b"]
 m7:FnT K mg "_law_cell_at" pX ["_law_script","_law_k"]
 qY:FnT K mg "_law_pot" wq ["_law_cell"]
 iK:FnT K mg "_law_take" uq ["_law_pot_here","_law_far_here"]
 mJ:FnT K mg "_law_whole" sJ ["_law_found"]
 nE:FnT K mg "_law_word" l9 ["_law_e"]
 nF:FnT K mg "_law_near" ur ["_law_web_here","_law_place"]
 qZ:FnT K mg "_law_met" wu ["_law_many","_law_ties","_law_first"]
 nG:FnT K mg "_law_is_tie" qF ["_law_many","_law_thing"]
 nH:FnT K mg "_law_is_web" qG ["_law_thing"]
 oQ:FnT K mg "_law_web" qW ["_law_pot_here","_law_most","_law_thick"]
 iO:FnT K mg "_law_bent" hV ["_law_pot_here","_law_web_here"]
 j5:FnT K mg "_law_no_place" jZ ["_law_pot_here","_law_web_here"]
 q_:FnT K mg "_law_far" wx ["_law_web_here","_law_first"]
 ko:FnT K mg "_law_said" uu ["_law_door","_law_web_here","_law_a","_law_b"]
 uw:FnT K mg "law" mY ["_law_script"]
 hG:mg "isinstance"=Rl
 pZ:mg "len"=Rl
 A2:mg "all"=Rl
 GR:mg "min"=Rl
 GS:mg "max"=Rl
 p_:mg "sorted"=Rl
 kD:mg "tuple"=Rl
 Kw:mg "int"=Rl
 Cd:mg "bool"=Rl
 jT:mg "range"=Rl
 N3:mg "zip"=Rl
 Kx:mg "set"=Rl
 wH:mg "list"=Rl
 tV:mg "repr"=Rl
 zy:mg "ValueError"=Rl
 o9:CtT K mg "FEWEST_PLACES" (.int 2)
 qH:CtT K mg "MOST_PLACES" (.int 8)
 er:xn K mg
section
variable {P:Program}{w:World}{K:gG}{mg:gD}{base:Heap}
theorem oR (T:Txt K mg):OkT P w base T.mZ 1 (spD K 1 jO):=T.mZ.okD (g:=pV) A0 (λ _ _ _ _ _ _ hr=>(iH (jb (ug (iG ml T.hG boot_isinstance (gM (dv 0) (gM (tJ T.Kw boot_int) gT))) (vI (Kf (iG ml T.hG boot_isinstance (gM (dv 0) (gM (tJ T.Cd boot_bool) gT))))))))) sF
theorem oW (T:Txt K mg):OkT P w base T.m6 2 (spD K 2 lg):=T.m6.okD (g:=lZ) A1 (λ _ _ _ _ _ _ hr=>(iH (jb (ug (dC T.mZ (oR T) hr (gM (dv 1) gT)) (vI (HZ Aj Ih ie (dv 1) (dv 0))))))) ze
theorem wI (T:Txt K mg):OkT P w base T.sM 3 (spD K 2 lP):=T.sM.okD (g:=lh) Eh (λ _ _ _ _ _ _ hr=>(iS (mw (tK (mr (jD (j7 (iG ml T.hG boot_isinstance (gM (dv 1) (gM (tJ T.kD boot_tuple) gT))))) (mh (jn (xh (h_ hr)) (iG An T.pZ cz (gM (dv 1) gT)) ie)))) (iH (jb m_)) jr) (iS (yT (dv 1) (nZ rfl (je (pgo 2) (je (pgo 3) mE))) ni) (iH (jb (ug (dC T.m6 (oW T) hr (gM (dv 0) (gM (dv 2) gT))) (ug (dC T.m6 (oW T) hr (gM (dv 0) (gM (dv 3) gT))) (vI (vG Ih (dv 2) (dv 3)))))))))) B_
theorem wJ (T:Txt K mg):OkT P w base T.qp 1 (spD K 2 mM):=T.qp.okD (g:=qi) qX (λ _ _ _ _ _ _ hr=>(iS (Fv (i:=2) qX.nd rfl (csc ["a","b"] ["place"] [1]) (oC (dv 0)) (λ _ _ _ _=>(nZ rfl (je (pgo 0) (je (pgo 1) mE)))) (rJ (kc (by decide) (kc (by decide) qd))) ni (λ _ _ _ _=>(yQ (jn (FA (h_ hr)) (dv 1) (dv 2)))) (λ _ _ _ _=>(dv 0))) (iS (Fv (i:=3) qX.nd rfl (csc ["a","b"] ["place"] [1]) (oC (dv 0)) (λ _ _ _ _=>(nZ rfl (je (pgo 0) (je (pgo 1) mE)))) (rJ (kc (by decide) (kc (by decide) qd))) ni (λ _ _ _ _=>(yQ (jn (FA (h_ hr)) (dv 0) (dv 2)))) (λ _ _ _ _=>(dv 1))) (iH (jb (mU uO T.kD boot_tuple (gM (iG (As srt pO oD) T.p_ boot_sorted (gM (jR o8 (dv 2) (dv 3)) gT)) gT))))))) BW
theorem qI (T:Txt K mg):OkT P w base T.mJ 1 (spD K 1 jS):=T.mJ.okD (g:=sH) xw (λ _ _ _ _ _ _ hr=>(iH (jb (ug (iG ml T.hG boot_isinstance (gM (dv 0) (gM (tJ T.Kw boot_int) gT))) (vI (Kf (iG ml T.hG boot_isinstance (gM (dv 0) (gM (tJ T.Cd boot_bool) gT))))))))) xt
theorem wK (T:Txt K mg):OkT P w base T.nG 2 (spD K 2 kP):=T.nG.okD (g:=jg) wz (λ _ _ _ _ _ _ hr=>(iS (mw (tK (mr (jD (j7 (iG ml T.hG boot_isinstance (gM (dv 1) (gM (tJ T.kD boot_tuple) gT))))) (mr (jn (xh (h_ hr)) (iG An T.pZ cz (gM (dv 1) gT)) ie) (mh (jD (j7 (iG (Ar rfl) T.A2 boot_all (gM (yR rfl (csc ["_law_one"] [] []) (oC (dv 1)) (λ _ _ _ _=>(pgo 0)) jI kB (λ _ _ _ _=>ox) (λ _ _ _ _=>(dC T.mJ (qI T) hr (gM (dv 0) gT)))) gT)))))))) (iH (jb m_)) jr) (iH (jb (GH Aj Ih Ih ie (mW (dv 1) ie) (mW (dv 1) ie) (dv 0)))))) we
end
abbrev iV (k:Nat):V:=.int k
section
variable {P:Program}{w:World}{K:gG}{mg:gD}{base:Heap}
structure DH (H0 H:Hp)(p e b:Addr)(st:gK×List Nat)(ic:List Nat):Prop where
 same:gY H0 H
 np:H0 p=Rl
 ne':H0 e=Rl
 nb:H0 b=Rl
 pe:p≠e
 pb:p≠b
 eb:e≠b
 hp:H p=My (.dK (kvD (jK st.1)))
 he:H e=My (.lst (ic.map iV))
 hb:H b=My (.lst (st.2.map iV))
theorem DH.ext {H0 H H':Hp}{p e b:Addr}{st:gK×List Nat}{ic:List Nat}(h:DH H0 H p e b st ic)(s:gY H H'):DH H0 H' p e b st ic :=
 ⟨h.same.trans s,h.np,h.ne',h.nb,h.pe,h.pb,h.eb,s _ _ h.hp,s _ _ h.he,s _ _ h.hb⟩
theorem jE {H0 H:Hp}{p:Addr}{o:HO}(s:gY H0 H)(n:H0 p=Rl):gY H0 (upd H p o):=λ c u h=>by rw[g9 (ik h n)];exact s c u h
def dbI (K:gG):TS:=Bg (tB (Cz (hX 6) (hX 2))) (jh (J9 (hX 2) (hX 6) (tOp (rI0 λ i j=>V.int (i+j)) (J6 (hX 2) (hX 5)) (tC (V.int 1)))) (Cq (tBM K "list" uM (hX 4) (gX (hX 6) iA)))) xB
def dbM (K:gG):TS:=w6 (iDT K (gI vJ (iq 2 mM (gN (gS 0) (gN (gS 5) gR))))) (iM 6) (dbI K)
def dbW (K:gG):TS:=jh (kH (ph iA) (iM 4)) (jh (w6 (Cr K (hX 3)) (iM 5) (dbM K)) (kH (hX 4) (iM 3)))
def dtW (K:gG):TT:=λ σ H Q=>hX 3 σ H λ x H'=>∃ k,HD K x H' k/\Q k H'
def dA (K:gG):TS:=jh (kH (J_ [(hX 1,tC (V.int 0))]) (iM 2)) (jh (kH (ph (gX (hX 1) iA)) (iM 3)) (jh (EC (dtW K) (dbW K)) (wZ (hX 2))))
abbrev sgD (vt:V)(st:Nat)(p e:Addr)(b pl nr:gF V):L2.St:=[My vt,My (iV st),My (.ref p),My (.ref e),b,pl,nr]
theorem Jb {D:Ends}{vt:V}{st place near:Nat}{p e b:Addr}{H H6:Hp}{st2:gK×List Nat}{ic:List Nat}(d6:DH H H6 p e b st2 ic)(hpk2:place∈st2.1.map (·.1))(l1:st2.1.length<=10000)(l2:st2.2.length<=10000)
  (h:∀ H',DH H H' p e b (i_ place st2 near) ic->j_ H6 H'->D.nx (sgD vt st p e (My (.ref b)) (My (iV place)) (My (iV near))) H'):dbI K D (sgD vt st p e (My (.ref b)) (My (iV place)) (My (iV near))) H6:=by
 refine⟨_,rfl,_,rfl,p,_,rfl,vm.k (k:=Sum.inl (near:Int)) d6.hp,_,rfl,?_⟩;rw[r8];cases hk:nv st2.1 near with
 | true =>
  rw[ai rfl];refine Bx ?_;have:i_ place st2 near=st2:=by unfold i_;rw[ai hk]
  rw[this]at h;exact h H6 d6 j_.refl
 | false =>
  rw[aq au];refine By ?_;have hv:i_ place st2 near=(st2.1++[(near,look st2.1 place+1)],st2.2++[near]):=by unfold i_;rw[aq (by rw[hk];exact au)]
  rw[hv]at h;have hlook:mS (kvD (jK st2.1)) (Sum.inl (place:Int))=My (.int (look st2.1 place)):=by rw[r8,ai ((mO _ _).mpr hpk2)]
  have g1:vm H6 p (iV place) (My (.int (look st2.1 place))):=by rw[<-hlook];exact vm.k (k:=Sum.inl (place:Int)) d6.hp
  have hll:(kvD (jK st2.1)).length<sizeLine:=by
   have:(kvD (jK st2.1)).length=st2.1.length:=by simp[kvD,jK]
   rw[sizeLine_eq];lia
  refine⟨_,rfl,_,rfl,p,_,rfl,g1,_,_,rfl,rfl,_,rfl,_,rfl,p,_,rfl,ES.k (k:=Sum.inl (near:Int)) d6.hp hll,?_⟩;have hput:putK (kvD (jK st2.1)) (Sum.inl (near:Int)) (V.int ((look st2.1 place:Int)+1))=kvD (jK (st2.1++[(near,look st2.1 place+1)])):=by rw[<-FU _ hk];rfl
  rw[hput];have hbb:upd H6 p (.dK (kvD (jK (st2.1++[(near,look st2.1 place+1)])))) b=My (.lst (st2.2.map iV)):=by rw[g9 (bj d6.pb)];exact d6.hb
  refine⟨_,rfl,.inl ⟨rfl,_,SqL.of hbb⟩,_,rfl,b,_,_,rfl,rfl,hbb,by rw[ah,sizeLine_eq];lia,h _ ⟨jE (jE d6.same d6.np) d6.nb,d6.np,d6.ne',d6.nb,d6.pe,d6.pb,d6.eb,?_,?_,?_⟩ ((j_.upd (by rw[d6.hp];trivial)).trans (j_.upd (by rw[hbb];trivial)))⟩
  ·rw[g9 d6.pb];exact gW
  ·rw[g9 d6.eb,g9 (bj d6.pe)];exact d6.he
  ·rw[gW];simp[iV]
theorem N4 {K:gG}{H:Hp}:Sat K H [] []:=⟨rfl,λ _ _ h=>by cases h⟩
theorem Ce {K:gG}{H:Hp}{x:gF V}{σ:L2.St}{δ:DE}(h:Sat K H σ δ):Sat K H (x::σ) (Rl::δ):=⟨cK (·+1) h.len,λ j d hj=>by
 cases j with
 | zero=>cases hj
 | succ j=>exact h.at_ j d hj⟩
theorem Mm {K:gG}{H:Hp}{v:V}{d:Dt}{σ:L2.St}{δ:DE}(i:Is K H v d)(h:Sat K H σ δ):Sat K H (My v::σ) (My d::δ):=⟨cK (·+1) h.len,λ j d hj=>by
 cases j with
 | zero=>cases hj;exact⟨_,rfl,i⟩
 | succ j=>exact h.at_ j d hj⟩
theorem GU {K:gG}{H':Hp}{vt:V}{st place:Nat}{p e:Addr}{b nr:gF V}{x:Dt}(i:Is K H' vt x):Sat K H' (sgD vt st p e b (My (iV place)) nr) [My x,Rl,Rl,Rl,Rl,My (gO place),Rl] :=
 Mm i (Ce (Ce (Ce (Ce (Mm (.int _) (Ce N4))))))
theorem GV {D:Ends}{vt:V}{st place:Nat}{p e b:Addr}{nr:gF V}{H H':Hp}{l:gK}{st1:gK×List Nat}{ic:List Nat}{x:Dt}(ex:dTs x=My l)(hlen:l.length<=30)(i1:Is K H' vt x)(d1:DH H H' p e b st1 ic)(bi1:BI (univ l st) st1)(hpk:place∈st1.1.map (·.1))(hl1:st1.2.length<=st1.1.length)
  (h:∀ nr H6,DH H H6 p e b (visit l st1 place) ic->j_ H' H6->D.nx (sgD vt st p e (My (.ref b)) (My (iV place)) nr) H6):dbM K D (sgD vt st p e (My (.ref b)) (My (iV place)) nr) H':=by
 have tk:=FQ ex hlen place;refine⟨_,(nb l place).map gO,GU i1,?_,qt.of (λ d hd=>by obtain⟨t,_,rfl⟩:=aA.mp hd;exact .int _),λ J H5 s5 ok=>?_⟩
 ·generalize (nb l place).map gO=zs at tk;simp only[gO]at tk;simp[tk,vJ,gO]
 ·have d5:=d1.ext s5
  refine FT ok (λ j σ' H'=>∃ (nr:gF V),σ'=sgD vt st p e (My (.ref b)) (My (iV place)) nr/\DH H H' p e b (((nb l place).take j).foldl (i_ place) st1) ic/\j_ H5 H')
   ⟨nr,rfl,d5,j_.refl⟩ (λ j σ' H' _ z=>by obtain⟨_,_,_,t⟩:=z;exact t) ?_ ?_
  ·rintro j dd xv σ' H6 hj ixv ⟨nr,rfl,d6,t6⟩
   rw[aJ]at hj;cases hnr:(nb l place)[j]? with
   | none=>rw[hnr]at hj;cases hj
   | some near =>
    rw[hnr]at hj;cases hj;have hx:=ixv.int_inv;subst hx;have hst3:((nb l place).take (j+1)).foldl (i_ place) st1=i_ place (((nb l place).take j).foldl (i_ place) st1) near:=by rw[eX,hnr,List.foldl_append];rfl
    have hpk2:=mP (f:=i_ place) (λ st p k hk=>pQ hk) ((nb l place).take j) st1 place hpk;have bi2:BI (univ l st) (((nb l place).take j).foldl (i_ place) st1):=r9 _ (λ x hx _ hs=>xY hs (C4 (bT hx))) bi1;have hl2:=pR (f:=i_ place) (λ _ _=>vO) ((nb l place).take j) st1;have hle:=bi2.le;rw[r_]at hle;generalize ((nb l place).take j).foldl (i_ place) st1=st2 at d6 hst3 hpk2 hl2 hle;refine Jb d6 hpk2 (by lia) (by lia) λ H7 d7 t7=>⟨_,rfl,?_,t6.trans t7⟩;rw[hst3];exact d7
  ·rintro σ' H6 ⟨nr,rfl,d6,t6⟩;rw[ah,d9]at d6;exact h _ _ d6 (s5.text.trans t6)
theorem Cf {D:Ends}{vt:V}{st:Nat}{p e:Addr}{b0 pl0 nr0:gF V}{H H2:Hp}{l fd:gK}{ic:List Nat}{x:Dt}(ex:dTs x=My l)(hlen:l.length<=30)(i1:Is K H vt x)(s2:gY H H2)(hp:H p=Rl)(he:H e=Rl)(hpe:p≠e)
  (gp:H2 p=My (.dK (kvD (jK fd)))) (ge:H2 e=My (.lst (ic.map iV))) (bi:BI (univ l st) (fd,ic))
  (h:∀ b pl nr H',gY H H'->H b=Rl->p≠b->H' p=My (.dK (kvD (jK (jM l fd ic).1)))->H' b=My (.lst ((jM l fd ic).2.map iV))->D.nx (sgD vt st p b (My (.ref b)) pl nr) H'):dbW K D (sgD vt st p e b0 pl0 nr0) H2:=by
 refine⟨aQ _,λ b hb=>?_⟩;have hbp:p≠b:=λ z=>by subst z;rw[hb]at gp;cases gp
 have hbe:e≠b:=λ z=>by subst z;rw[hb]at ge;cases ge
 have hb0:H b=Rl:=s2.free hb;have d0:DH H (upd H2 b (.lst [])) p e b (fd,[]) ic:=⟨jE s2 hb0,hp,he,hb0,hpe,hbp,hbe,by rw[g9 hbp];exact gp,by rw[g9 hbe];exact ge,gW⟩;refine⟨_,rfl,e,rfl,⟨_,SqL.of d0.he⟩,zO (K:=K) (a:=e) (xs:=ic.map iV) (λ i σ' H'=>∃ (pl nr:gF V),σ'=sgD vt st p e (My (.ref b)) pl nr/\DH H H' p e b ((ic.take i).foldl (visit l) (fd,[])) ic/\j_ H H')
  ⟨pl0,nr0,rfl,d0,d0.same.text⟩ (λ i σ' H' _ z=>by obtain⟨_,_,_,d,_⟩:=z;exact SqL.of d.he) ?_ ?_⟩
 ·clear d0 gp ge s2
  rintro i xv σ' H' hi ⟨pl,nr,rfl,d1,t1⟩;rw[aJ]at hi;cases hpl:ic[i]? with
  | none=>rw[hpl]at hi;cases hi
  | some place =>
   rw[hpl]at hi;cases hi;have hst':(ic.take (i+1)).foldl (visit l) (fd,[])=visit l ((ic.take i).foldl (visit l) (fd,[])) place:=by rw[eX,hpl,List.foldl_append];rfl
   have bi1:BI (univ l st) ((ic.take i).foldl (visit l) (fd,[])):=r9 _ (λ _ _ _ hs=>AB hs) ⟨bi.nd,bi.sub,by simp⟩;have hpk:place∈((ic.take i).foldl (visit l) (fd,[])).1.map (·.1):=mP (f:=visit l) (λ st p k hk=>qT st k hk) _ (fd,[]) place (bi.by' place (aY hpl));have hl1:=pR (f:=visit l) (λ st p=>xZ st) (ic.take i) (fd,[]);generalize (ic.take i).foldl (visit l) (fd,[])=st1 at d1 hst' bi1 hpk hl1;refine GV ex hlen (i1.ext d1.same) d1 bi1 hpk (by simp at hl1;lia) λ nr H6 d6 t6=>⟨_,_,rfl,?_,t1.trans t6⟩;rw[hst'];exact d6
 ·rintro σ' H' ⟨pl,nr,rfl,d1,t1⟩;rw[ah,d9]at d1;exact⟨_,rfl,h b pl nr H' d1.same hb0 hbp d1.hp d1.hb⟩
def dI1 (vt:V)(st:Nat)(l:gK)(H:Hp):Nat->L2.St->Hp->Prop:=λ m σ H2=>∃ (fd:gK) (ic:List Nat) (p e:Addr) (b pl nr:gF V),σ=sgD vt st p e b pl nr/\gY H H2/\H p=Rl/\H e=Rl/\p≠e/\H2 p=My (.dK (kvD (jK fd)))/\H2 e=My (.lst (ic.map iV)) /\
  BI (univ l st) (fd,ic)/\ny l m fd ic=bfs l st/\(ic≠[]->2*l.length+3<=m+fd.length)
def dI2 (vt:V)(st:Nat)(l fd:gK)(ic:List Nat)(H:Hp):L2.St->Hp->Prop:=λ σ' H'=>∃ (p b:Addr) (pl nr:gF V),σ'=sgD vt st p b (My (.ref b)) pl nr/\gY H H'/\H p=Rl/\H b=Rl/\p≠b/\H' p=My (.dK (kvD (jK (jM l fd ic).1)))/\H' b=My (.lst ((jM l fd ic).2.map iV))
theorem Ei {D:Ends}{vt:V}{st:Nat}{H:Hp}{l:gK}{x:Dt}(ex:dTs x=My l)(hlen:l.length<=30)(i1:Is K H vt x)(q:∀ v H',gY H H'->Is K H' v (.dct (jK (bfs l st)))->D.rt v H')(m:Nat)(σ:L2.St)(H2:Hp)(z:dI1 vt st l H m σ H2) :
  dtW K σ H2 λ b H1=>if b=Rm then ∃ N:L2.St->Hp->Prop,(∀ σ' H',N σ' H'->∃ m',m'<m/\dI1 vt st l H m' σ' H')/\dbW K {D with nx:=N,ct:=N,bk:=wZ (hX 2) D} σ H1 else wZ (hX 2) D σ H1:=by
 obtain⟨fd,ic,p,e,b0,pl0,nr0,rfl,s2,hp,he,hpe,gp,ge,bi,hm,hf⟩:=z;refine⟨_,rfl,!(ic.map iV).isEmpty,.inl ⟨_,SqL.of ge,rfl⟩,?_⟩;cases hedge:ic with
 | nil =>
  subst hedge;refine Bx ?_;refine⟨_,rfl,q _ H2 s2 (.dct (.inl ?_))⟩;rw[<-hm];have:ny l m fd []=fd:=by cases m<;>rfl
  rw[this];exact gp
 | cons e0 es =>
  refine By ?_;have hne:ic≠[]:=by rw[hedge];simp
  have hf:=hf hne;have hle:=bi.le;rw[r_]at hle;have hle:fd.length<=2*l.length+1:=hle;obtain⟨m',rfl⟩:∃ m',m=m'+1:=⟨m-1,by lia⟩;have hstep:ny l (m'+1) fd ic=ny l m' (jM l fd ic).1 (jM l fd ic).2:=by rw[hedge];rfl
  rw[hstep]at hm;refine⟨dI2 vt st l fd ic H,?_,?_⟩
  ·rintro σ' H' ⟨p,b,pl,nr,rfl,s3,hp,hb,hpb,gp,gb⟩;have lb:=vP (ic:=ic) (l:=l) (fd:=fd) ⟨bi.nd,bi.sub,by simp⟩;refine⟨m',by lia,_,_,p,b,My (.ref b),pl,nr,rfl,s3,hp,hb,hpb,gp,gb,⟨lb.nd,lb.sub,lb.by'⟩,hm,λ hb'=>?_⟩;have:=tO (l:=l) (fd:=fd) (ic:=ic);have:0<(jM l fd ic).2.length:=dD.mpr hb';lia
  ·exact Cf ex hlen i1 s2 hp he hpe gp ge bi λ b pl nr H' s3 hb hpb gp gb=>⟨p,b,pl,nr,rfl,s3,hp,hb,hpb,gp,gb⟩
theorem GW {D:Ends}{vt:V}{st:Nat}{H:Hp}{l:gK}{x:Dt}(ex:dTs x=My l)(hlen:l.length<=30)(i1:Is K H vt x)(q:∀ v H',gY H H'->Is K H' v (.dct (jK (bfs l st)))->D.rt v H'):dA K D [My vt,My (iV st),Rl,Rl,Rl,Rl,Rl] H:=by
 intro p hp;refine⟨_,rfl,gW,[(Sum.inl (st:Int),.int 0)],rfl,by simp,?_⟩;refine⟨_,rfl,by show 1<=sizeLine;decide,λ e he=>?_⟩;have hp0:upd (upd H p (.dK [])) p (.dK (tw [] [(Sum.inl (st:Int),V.int 0)]))=upd H p (.dK (kvD (jK [(st,0)]))):=by rw[Hu];rfl
 rw[hp0]at he ⊢;have hpe:p≠e:=λ z=>by subst z;rw[gW]at he;cases he
 have he0:H e=Rl:=by rw[g9 (bj hpe)]at he;exact he
 refine⟨dI1 vt st l H,⟨2*l.length+2,[(st,0)],[st],p,e,Rl,Rl,Rl,rfl,jE (jE (gY.refl H) hp) he0,hp,he0,hpe,by rw[g9 hpe];exact gW,gW,⟨by simp,λ q hq=>by rw[aV.mp hq];exact ay,λ j hj=>by simpa using hj⟩,rfl,λ _=>by simp⟩,?_⟩;exact λ m σ H2 z=>Ei ex hlen i1 q m σ H2 z
set_option tactic.hygienic true in
theorem oX (T : Txt K mg) : OkT P w base T.ma 2 (spD K 2 kg) := by
  refine T.ma.F.ok lJ (λ vs H Q E h => ?_) (λ cdv A outer s H vs Q E hr h => ?_)
  · obtain⟨ds, d, hl, is, _⟩ := h
    rw[is.length, hl]; rfl
  · obtain⟨ds, d, hl, is, e, q⟩ := h
    match ds, e with
    | [x, y], e =>
      obtain⟨l, e1, e⟩ := gQ (show(dTs x).bind _ = _ from e);obtain⟨st, e2, e⟩ := gQ e;split at e
      · rename_i hlen
        cases e;have e2 := lC e2;subst e2;obtain⟨vt, v2, rfl, i1, i2⟩ := is.two;have hv2 := i2.int_inv;subst hv2;have hu := Nj hr;refine⟨dA K, g0 (iX (i := 2) lJ.nd rfl (Or.inl rfl) (HN (EX (pv 1) hJ HM) rfl rfl (by simp) (by decide)))
          (g0 (iX (i := 3) lJ.nd rfl (Or.inl rfl) (jP (gP (pv 1) g_)))
          (g0 (ED bP (zQ (pv 3) (λ _ => rfl))
            (g0 (iX (i := 4) lJ.nd rfl (Or.inl rfl) (jP g_))
            (g0 (mQ bP rfl (rq (pv 3)) (pgo 5)
              (iW (mQ bP rfl (Iz (dC T.qp (wJ T) hr (gM (dv 0) (gM (dv 5) gT)))) (pgo 6)
                (iW (qy (KP (Dy hu (pv 6) (pv 2)) (by with_unfolding_all rfl)) (g0 (HL hu (pv 2) (pv 6) (jv pD (CA hu (pv 2) (pv 5) (λ _ _ => rfl)) hJ) rfl)
                  (iW (uK (xI dM eA eB tm (pv 4) (gP (pv 6) g_))))) lQ)))))
            (iW (iX (i := 3) lJ.nd rfl (Or.inl rfl) (pv 4))))))
          (iW (kG (pv 2))))), ?_⟩
        exact GW e1 (by lia) i1 q
      · cases e
end
section
variable {P:Program}{w:World}{K:gG}{mg:gD}{base:Heap}
theorem sN (T:Txt K mg):OkT P w base T.nC 1 (spD K 1 lE):=T.nC.okD (g:=oF) zr (λ _ _ _ _ _ _ hr=>(iH (jb (iG (Ar rfl) T.A2 boot_all (gM (yR rfl (csc ["one","following"] [] []) (NB Rm Rm T.N3 (gM (dv 0) (gM (IH (dv 0)) gT))) (λ _ _ _ _=>(nZ rfl (je (pgo 0) (je (pgo 1) mE)))) (rJ (kc (by decide) (kc (by decide) qd))) ni (λ _ _ _ _=>ox) (λ _ _ _ _=>(vG (Nw (IA hr)) (dv 0) (dv 1)))) gT))))) xm
theorem kq (T:Txt K mg):OkT P w base T.j4 4 (spD K 1 i8):=T.j4.okD (g:=jy) yj (λ _ _ _ _ _ _ hr=>(iS (mw (tK (mr (jD (j7 (iG ml T.hG boot_isinstance (gM (dv 0) (gM (tJ T.kD boot_tuple) gT))))) (mh (jn (xh (h_ hr)) (iG An T.pZ cz (gM (dv 0) gT)) ie)))) (iH (jb m_)) jr) (iS (yT (dv 0) (nZ rfl (je (pgo 1) (je (pgo 2) mE))) ni) (iS (mw (tK (mr (jD (j7 (dC T.mZ (oR T) hr (gM (dv 1) gT)))) (mh (jD (vH Aj Aj (dG T.o9) (dv 1) (dG T.qH)))))) (iH (jb m_)) jr) (iS (mw (tK (mr (jD (j7 (iG ml T.hG boot_isinstance (gM (dv 2) (gM (tJ T.kD boot_tuple) gT))))) (mh (jD (j7 (iG (Ar rfl) T.A2 boot_all (gM (yR rfl (csc ["tie"] ["many"] [1]) (oC (dv 2)) (λ _ _ _ _=>(pgo 0)) jI kB (λ _ _ _ _=>ox) (λ _ _ _ _=>(dC T.sM (wI T) hr (gM (dv 1) (gM (dv 0) gT))))) gT))))))) (iH (jb m_)) jr) (iH (jb (ug (dC T.nC (sN T) hr (gM (dv 2) gT)) (vI (vG (FA (h_ hr)) (iG FN T.pZ cz (gM (dC T.ma (oX T) hr (gM (dv 2) (gM ie gT))) gT)) (dv 1))))))))))) Ca
theorem sO (T:Txt K mg):OkT P w base T.nF 1 (spD K 2 kh):=T.nF.okD (g:=pT) zv (λ _ _ _ _ _ _ hr=>(iH (jb (yR rfl (csc ["_law_other"] ["_law_web_here","_law_place"] [0,1]) (rT T.jT (gM (mW (dv 0) ie) gT)) (λ _ _ _ _=>(pgo 0)) jI kB (λ _ _ _ _=>(yQ (jn (LJ (h_ hr)) (jc (gM (iG (LF rfl) T.GR boot_min (gM (dv 2) (gM (dv 0) gT))) (gM (iG (LG rfl) T.GS boot_max (gM (dv 2) (gM (dv 0) gT))) gT))) (mW (dv 1) ie)))) (λ _ _ _ _=>(dv 0)))))) zb
theorem A3 (T:Txt K mg):OkT P w base T.qZ 1 (spD K 3 oO):=T.qZ.okD (g:=oN) pY (λ _ _ _ _ _ _ hr=>(iS (j8 (i:=3) pY.nd (mv (gM (dv 2) gT))) (iS (BR bP rfl (rT T.jT (gM (dv 0) gT)) (pgo 4) kB (iH (BR bP rfl (oC (dv 1)) (nZ rfl (je (pgo 5) (je (pgo 6) mE))) ni (iH (mw (tK (mr (jn (LJ (h_ hr)) (dv 5) (dv 3)) (mh (jn (LJ (h_ hr)) (dv 6) (dv 3))))) (iH (j8 (i:=3) pY.nd (jR o8 (dv 3) (yR rfl (csc ["_law_place"] ["_law_found"] [3]) (oC (jc (gM (dv 5) (gM (dv 6) gT)))) (λ _ _ _ _=>(pgo 0)) jI kB (λ _ _ _ _=>(yQ (jn (Iq (h_ hr)) (dv 0) (dv 1)))) (λ _ _ _ _=>(dv 0)))))) jr))))) (iH (jb (iG (As srt pO oD) T.p_ boot_sorted (gM (dv 3) gT))))))) AX
theorem wL (T:Txt K mg):OkT P w base T.nH 3 (spD K 1 kQ):=T.nH.okD (g:=iZ) wG (λ _ _ _ _ _ _ hr=>(iS (mw (tK (mr (jD (j7 (iG ml T.hG boot_isinstance (gM (dv 0) (gM (tJ T.kD boot_tuple) gT))))) (mr (jn (xh (h_ hr)) (iG An T.pZ cz (gM (dv 0) gT)) ie) (mr (jD (j7 (dC T.mJ (qI T) hr (gM (mW (dv 0) ie) gT)))) (mh (jD (vH Aj Aj ie (mW (dv 0) ie) ie))))))) (iH (jb m_)) jr) (iS (mw (tK (mr (jD (j7 (iG ml T.hG boot_isinstance (gM (mW (dv 0) ie) (gM (tJ T.kD boot_tuple) gT))))) (mh (jD (j7 (iG (Ar rfl) T.A2 boot_all (gM (yR rfl (csc ["_law_tie"] ["_law_thing"] [0]) (oC (mW (dv 0) ie)) (λ _ _ _ _=>(pgo 0)) jI kB (λ _ _ _ _=>ox) (λ _ _ _ _=>(dC T.nG (wK T) hr (gM (mW (dv 1) ie) (gM (dv 0) gT))))) gT))))))) (iH (jb m_)) jr) (iS (mw (jn (NW (h_ hr)) (mU vM T.wH boot_list (gM (mW (dv 0) ie) gT)) (AS rfl hr.units T.p_ T.Kx (mW (dv 0) ie))) (iH (jb m_)) jr) (iH (jb (vG (NX (h_ hr)) (dC T.qZ (A3 T) hr (gM (mW (dv 0) ie) (gM (mW (dv 0) ie) (gM ie gT)))) (FV rfl T.wH T.jT (mW (dv 0) ie))))))))) wj
theorem qJ (T:Txt K mg):OkX P w base T.nD 5 (spX K T.er.C 1 lH):=T.nD.okX (g:=mH) zu (λ _ _ _ _ _ _ hr=>oH (Gv (jD (j7 (dC T.j4 (kq T) hr (gM (dv 0) gT)))) (oH (AK T.er.sx.cl rfl hr.hd rK)) (Gu jr))) xp
theorem mq (T:Txt K mg):OkX P w base T.kR 3 (spX K T.er.C 2 jL):=T.kR.okX (g:=lI) wy (λ _ _ _ _ _ _ hr=>oH (Gv (jD (j7 (dC T.m6 (oW T) hr (gM (mW (dv 0) ie) (gM (dv 1) gT))))) (oH (AK T.er.nV.cl rfl hr.hd rK)) (Gu jr))) uH
end
section
variable {P:Program}{w:World}{K:gG}{mg:gD}{base:Heap}
def Cg (K:gG):Sp:=λ vs H Q _=>∃ (a:Addr) (ns:List Int) (k:Nat),vs=[.ref a,.int k]/\SqL K H a (ns.map V.int)/\ns.length<=63/\∀ c,Q (.int c) H
theorem Jc (T:Txt K mg):OkT P w base T.m7 1 (Cg K):=by
 refine T.m7.F.ok uI (λ vs H Q E h=>?_) (λ cdv A outer s H vs Q E hr h=>?_)
 ·obtain⟨a,ns,k,rfl,_⟩:=h;rfl
 ·obtain⟨a,ns,k,rfl,hS,hl,q⟩:=h
  refine⟨_,g0 (qy (rz JW (pv 1) (jH lx (by rfl) T.pZ cz (gP (pv 0) g_)) (s_ _)) (iW (kG (lu kz (pv 0) (pv 1) (λ _ _=>rfl)))) lQ) (iW (kG hJ)),?_⟩;refine⟨_,rfl,_,rfl,a,_,rfl,.inl hS,_,_,rfl,rfl,_,rfl,?_⟩;refine Lk (λ hc=>?_) (λ _=>q 0);have hk:k<ns.length:=by have:=of_decide_eq_true hc;rw[ah]at this;lia
  exact⟨_,rfl,_,rfl,a,_,_,.int ns[k],rfl,rfl,hS,by unfold atI ixN;rw[ai (by lia),ai (by rw[ah];lia)];simp[hk],q _⟩
def kr:Sp:=λ vs H Q _=>∃ (p:Addr) (n far:Int),vs=[.ref p,.int far]/\H p=My (.lst [.int n])/\0<far/\far<1073741824/\Q (.int (n % far)) (upd H p (.lst [.int (n / far)]))
theorem jF (T:Txt K mg):OkT P w base T.iK 1 kr:=by
 refine T.iK.F.ok sL (λ vs H Q E h=>?_) (λ cdv A outer s H vs Q E hr h=>?_)
 ·obtain⟨p,n,far,rfl,_⟩:=h;rfl
 ·obtain⟨p,n,far,rfl,hp,h0,h1,q⟩:=h
  refine⟨_,g0 (iX (i:=2) sL.nd rfl (Or.inl rfl) (jv yu (lu kz (pv 0) hJ (λ _ _=>rfl)) (pv 1)))
   (g0 (yr (jv HB (lu kz (pv 0) hJ (λ _ _=>rfl)) (pv 1)) (Bh (pv 0) hJ set_list))
   (iW (kG (pv 2)))),?_⟩
  refine⟨_,rfl,p,_,_,.int n,rfl,rfl,SqL.of hp,rfl,_,rfl,_,_,rfl,rfl,h0,?_⟩;refine⟨_,rfl,p,_,_,.int n,rfl,rfl,SqL.of hp,rfl,_,rfl,_,_,rfl,rfl,⟨h0,h1⟩,_,rfl,p,_,_,0,rfl,rfl,hp,rfl,_,rfl,?_⟩;exact q
def GX:Sp:=λ vs H Q _=>∃ c:Int,vs=[.int c]/\∀ (p:Addr) (n:Int),H p=Rl->Q (.ref p) (upd H p (.lst [.int n]))
theorem Mn (T:Txt K mg):OkT P w base T.qY 1 GX:=by
 refine T.qY.F.ok l_ (λ vs H Q E h=>?_) (λ cdv A outer s H vs Q E hr h=>?_)
 ·obtain⟨c,rfl,_⟩:=h;rfl
 ·obtain⟨c,rfl,q⟩:=h
  refine⟨_,g0 (qy (rz Nb (pv 0) (jv yv hJ hJ) (s_ _)) (iW (kG (jP (gP (jv yt (pv 0) (jv yv hJ hJ)) g_)))) lQ)
   (g0 (iX (i:=1) l_.nd rfl (Or.inl rfl) hJ)
   (g0 (mQ bP rfl (lN rfl T.jT (gP hJ g_)) (pgo 2)
    (g0 (iX (i:=3) l_.nd rfl (Or.inl rfl) (jv yu (jv sZ (jv pD (jv pD (jv yu (pv 0) hJ) (jv sZ hJ (pv 2))) hJ) hJ) hJ))
    (g0 (iX (i:=3) l_.nd rfl (Or.inl rfl) (jv yu (jv pD (jv pD (jv sZ (pv 3) (pv 3)) (jv sZ hJ (pv 2))) hJ) hJ))
    (iW (iX (i:=1) l_.nd rfl (Or.inl rfl) (jv pD (jv sZ (pv 1) hJ) (pv 3)))))))
   (iW (kG (jP (gP (pv 1) g_)))))),?_⟩
  refine⟨_,rfl,_,_,rfl,rfl,⟨by decide,by decide,by decide⟩,_,_,rfl,rfl,_,rfl,?_⟩;refine Lk (λ _=>?_) (λ _=>?_)
  ·exact⟨_,rfl,_,_,rfl,rfl,⟨by decide,by decide,by decide⟩,_,_,rfl,rfl,by show 1<=sizeLine;decide,λ l hl=>q l _ hl⟩
  ·refine⟨64,rfl,by decide,by decide,mK (n:=64) (λ i σ H'=>H'=H/\∃ (n:Int) (a b:gF V),σ=[My (.int c),My (.int n),a,b]) ⟨rfl,0,Rl,Rl,rfl⟩ ?_ ?_⟩
   ·rintro i σ H' hi ⟨rfl,n,a,b,rfl⟩
    refine⟨_,rfl,_,_,rfl,rfl,(by show(0:Int)<2147483629;decide),_,rfl,_,_,rfl,rfl,.inl ⟨by decide,by decide⟩,_,_,rfl,rfl,_,_,rfl,rfl,_,_,rfl,rfl,.inr ⟨by decide,by decide⟩,_,_,rfl,rfl,(by show(0:Int)<2147483647;decide),?_⟩;generalize hmx:((c % 2147483629+7919*(0+(i:Int))+1)*48271) % 2147483647=mx;have h0:0<=mx:=by rw[<-hmx];exact cg _ (by decide)
    have h1:mx<2147483647:=by rw[<-hmx];exact cL _ (by decide)
    refine⟨_,rfl,_,rfl,_,_,rfl,rfl,.inl ⟨by lia,by lia⟩,_,rfl,_,_,rfl,rfl,.inl ⟨by decide,by decide⟩,_,_,rfl,rfl,_,_,rfl,rfl,_,_,rfl,rfl,(by show(0:Int)<2147483587;decide),?_⟩;refine⟨_,rfl,_,_,rfl,rfl,.inr ⟨by decide,by decide⟩,_,rfl,_,_,rfl,rfl,?_⟩;exact⟨rfl,_,_,_,rfl⟩
   ·rintro σ H' ⟨rfl,n,a,b,rfl⟩;exact⟨_,rfl,by show 1<=sizeLine;decide,λ l hl=>q l _ hl⟩
end
def But (p:Addr)(H H':Hp):Prop:=∀ b o,H b=My o->b≠p->H' b=My o
theorem But.refl (p:Addr)(H:Hp):But p H H:=λ _ _ h _=>h
theorem But.sP {p:Addr}{H H':Hp}{o:HO}(h:But p H H'):But p H (upd H' p o):=λ b u e n=>by rw[g9 n];exact h b u e n
theorem But.new {p q:Addr}{H H':Hp}{o:HO}(h:But p H H')(hq:H q=Rl):But p H (upd H' q o):=λ b u e n=>by rw[g9 (ik e hq)];exact h b u e n
theorem But.none {p q:Addr}{H H':Hp}(h:But p H H')(hn:H' q=Rl)(hp:q≠p):H q=Rl:=by
 cases e:H q with
 | none=>rfl
 | some o=>rw[h q o e hp]at hn;cases hn
theorem wM {α:Type}:∀ (L:List α) {j:Nat} (h:j<L.length),(L[j]::L.eraseIdx j).Perm L
 | a::r,0,h=>.refl _
 | a::r,j+1,h=>by have ih:=wM r (j:=j) (by simpa using h);show(r[j]'(by simpa using h)::a::r.eraseIdx j).Perm (a::r);exact(List.Perm.swap _ _ _).trans (ih.cons a)
theorem yk {α β:Type}(f:α->β):∀ (L:List α) (j:Nat),(L.map f).eraseIdx j=(L.eraseIdx j).map f
 | [],_=>rfl
 | a::r,0=>rfl
 | a::r,j+1=>by show f a::(r.map f).eraseIdx j=f a::(r.eraseIdx j).map f;rw[yk f r j]
theorem Ky {xs:List Nat}{j:Nat}(h:j<xs.length):atI (xs.map iV) (j:Int)=My (iV (xs.getD j 0)):=by refine lR ?_;rw[aJ,aF,aG h];rfl
def TN (H:Hp)(vs:List V)(l:gK):Prop:=DJ H vs (l.map λ t=>[(t.1:Int),(t.2:Int)])
theorem TN.text {H H':Hp}{vs:List V}{l:gK}(h:TN H vs l)(e:j_ H H'):TN H' vs l:=Paired.imp' (λ _ _ ⟨b,e1,e2⟩=>⟨b,e1,e.o_ _ _ e2⟩) h
theorem TN.len {H:Hp}{vs:List V}{l:gK}(h:TN H vs l):vs.length=l.length:=by have:=ef h;simpa using this
theorem TN.snoc {H:Hp}{vs:List V}{l:gK}{b:Addr}{t:Nat×Nat}(h:TN H vs l)(hb:H b=My (.tup [.int t.1,.int t.2])):TN H (vs++[.ref b]) (l++[t]):=by unfold TN at *;rw[bD];exact fO h ⟨b,rfl,hb⟩
theorem TN.get {H:Hp}{vs:List V}{l:gK}(h:TN H vs l){i:Nat}{v:V}(e:vs[i]?=My v):∃ t b,l[i]?=My t/\v=.ref b/\H b=My (.tup [.int t.1,.int t.2]):=by
 obtain⟨k,hk,b,e1,e2⟩:=nJ h i v e;rw[aJ]at hk;cases ht:l[i]? with
 | none=>rw[ht]at hk;cases hk
 | some t=>rw[ht]at hk;cases hk;exact⟨t,b,rfl,e1,e2⟩
theorem A4 {K:gG}{H:Hp}{ws:List V}{l:gK}(h:TN H ws l):Iss K H ws (l.map g6):=by
 induction l generalizing ws with
 | nil=>cases h;exact .nil
 | cons t r ih =>
  cases h with
  | cons h1 h2 =>obtain⟨b,rfl,hb⟩:=h1;exact .cons (.tup (SqT.of hb) (.cons (.int _) (.cons (.int _) .nil))) (ih h2)
theorem Ej {ks:List (List Int)}{l:gK}(h:∀ k∈ks,k∈l.map λ t=>[(t.1:Int),(t.2:Int)]):(ks.map λ k=>(k.getD 0 0,k.getD 1 0)).map (λ(k:Int×Int)=>[k.1,k.2])=ks:=by
 rw[bq];conv=>rhs;rw[<-cT ks]
 refine cm λ k hk=>?_;obtain⟨t,_,rfl⟩:=aA.mp (h k hk);rfl
section
variable {P:Program}{w:World}{K:gG}{mg:gD}{base:Heap}
def Kz (K:gG):Sp:=λ vs H Q _=>∃ (p:Addr) (n:Int) (thick:Nat),vs=[.ref p,.int 8,.int thick]/\thick<=1/\H p=My (.lst [.int n]) /\
 ∀ v H' (n':Int) (w:Web),Good w->(thick=0->w.2.length+1=w.1)->Is K H' v (iP w)->H' p=My (.lst [.int n'])->But p H H'->Q v H'
def GY (K:gG):List V->Hp->VK->Prop:=λ xs H Q=>∃ p ys,xs=[.ref p]/\(SqL K H p ys\/SqT K H p ys)/\Q (.int ys.length) H
def Jd:List V->Hp->VK->Prop:=λ xs H Q=>∃ i j,xs=[.int i,.int j]/\Q (.int (if j<i then j else i)) H
def Je:List V->Hp->VK->Prop:=λ xs H Q=>∃ i j,xs=[.int i,.int j]/\Q (.int (if j>i then j else i)) H
def Mo:List V->Hp->VK->Prop:=λ xs H Q=>∃ (r:Addr) (n:Nat),xs=[V.ref r]/\H r=My (HO.rng 0 (n:Int))/\n<=1000/\∀ (p:Addr),H p=Rl->Q (V.ref p) (upd H p (HO.lst (List.map (λ(i:Nat)=>V.int (i:Int)) (Ro n))))
def N5:List V->Hp->VK->Prop:=λ xs H Q=>∃ (j:Int),xs=[V.int j]/\∀ (p:Addr),H p=Rl->Q (V.ref p) (upd H p (HO.rng 0 j))
def Mp (K:gG):List V->Hp->VK->Prop:=λ xs H Q=>∃ p ys,xs=[V.ref p]/\((SqL K H p ys/\∀ (l:Addr),H l=Rl->Q (V.ref l) (upd H l (HO.tup ys)))\/SqT K H p ys/\Q (V.ref p) H)
def Jf (w:World):List V->Hp->VK->Prop:=λ xs H Q=>∃ (S:Addr) (kk:List (Int×Int)),xs=[V.ref S]/\HY w H S (List.map (λ(k:Int×Int)=>[k.1,k.2]) kk)/\kk.length<64/\∀ (p:Addr) (ws:List V) (ss:List (Int×Int)),H p=Rl->DJ H ws (List.map (λ(k:Int×Int)=>[k.1,k.2]) ss)->List.Pairwise (λ a b=>Tb.pLt a b=Rm) ss->ss.Perm kk->Q (V.ref p) (upd H p (HO.lst ws))
def Qm (K:gG)(w:World):List V->Hp->VK->Prop:=λ xs H Q=>∃ (l:Addr) (vs:List V) (kk:List (List Int)),xs=[V.ref l]/\SqL K H l vs/\DJ H vs kk/\vs.length<=40/\∀ (S:Addr) (o:HO) (ks:List (List Int)),H S=Rl->HY w (upd H S o) S ks->(∀ (k:List Int),k∈ks↔k∈kk)->Q (V.ref S) (upd H S o)
def wF (K:gG)(w:World):TS:=wZ (pg (gX (hX 3) (gX (tCB (Mp K) (gX (tCB (Jf w) (gX (tCB (Qm K w) (gX (hX 8) iA)) iA)) iA)) iA)))
def eN (K:gG):TE:=pg (gX (tCB Jd (gX (tOp (pF K) (hX 2) (hX 0)) (gX (tOp (pF K) (hX 2) (hX 1)) iA))) (gX (tCB Je (gX (tOp (pF K) (hX 2) (hX 0)) (gX (tOp (pF K) (hX 2) (hX 1)) iA))) iA))
def wE (K:gG)(w:World):TS:=jh (λ D σ H=>tLC ["_law_one","_law_other"] [7] (Cr K (hX 8)) (EB K 2 (t_ (iM 0) (t_ (iM 1) EA))) Fc (eN K) σ H λ v H'=>D.nx (List.set σ 8 (My v)) H') (wF K w)
def b2 (K:gG):TS:=jh (kH (jo kr [] E0 (gX (hX 0) (gX (hX 3) iA))) (iM 12)) (jh (kH (jo kr [] E0 (gX (hX 0) (gX (hX 3) iA))) (iM 13)) (Bg (zP (tOp rNe (hX 12) (hX 13))) (Cq (tBM K "list" uM (hX 8) (gX (pg (gX (hX 12) (gX (hX 13) iA))) iA))) xB))
def wD (K:gG)(w:World):TS:=jh (w6 (u_ (gX (hX 5) iA)) (iM 11) (b2 K)) (wE K w)
def b1 (K:gG):TS:=jh (kH (jo kr [] E0 (gX (hX 0) (gX (hX 9) iA))) (iM 10)) (Cq (tBM K "list" uM (hX 8) (gX (pg (gX (tOp (pF K) (ph (gX (tOp (rI0 λ i j=>V.int (i-j)) (hX 9) (tC (V.int 1))) (gX (hX 10) (gX (hX 10) (gX (tC (V.int 0)) iA))))) (hX 4)) (gX (hX 9) iA))) iA)))
def wC (K:gG)(w:World):TS:=jh (kH (ph iA) (iM 8)) (jh (w6 (JT (gX (tC (V.int 1)) (gX (hX 3) iA))) (iM 9) (b1 K)) (wD K w))
def eC (K:gG):TE:=tBM K "list" Bv (hX 1) (gX (jo kr [] E0 (gX (hX 2) (gX (tCB (GY K) (gX (hX 1) iA)) iA))) iA)
def wB (K:gG)(w:World):TS:=jh (kH (tLC ["_law_turn"] [6,0] (u_ (gX (hX 3) iA)) (iM 0) Fc (eC K)) (iM 7)) (wC K w)
def wA (K:gG)(w:World):TS:=jh (kH (tOp (rI0 λ i j=>V.int (i+j)) (tC (V.int 2)) (jo kr [] E0 (gX (hX 0) (gX (tOp (rI0 λ i j=>V.int (i-j)) (hX 1) (tC (V.int 1))) iA)))) (iM 3)) (jh (kH (jo kr [] E0 (gX (hX 0) (gX (tC (V.int 4)) iA))) (iM 4)) (jh (kH (tOp (rI HA λ i j=>V.int (i*j)) (tOp (pF K) (ph (gX (tC (V.int 0)) (gX (tC (V.int 1)) (gX (tC (V.int 2)) (gX (tC (V.int 12)) iA))))) (jo kr [] E0 (gX (hX 0) (gX (tC (V.int 4)) iA)))) (hX 2)) (iM 5)) (jh (kH (tCB Mo (gX (tCB N5 (gX (hX 3) iA)) iA)) (iM 6)) (wB K w))))
def QW (K:gG)(p:Addr)(H:Hp)(thick:Nat)(rt:VK):Prop:=∀ v H' (n':Int) (w:Web),Good w->(thick=0->w.2.length+1=w.1)->Is K H' v (iP w)->H' p=My (.lst [.int n'])->But p H H'->rt v H'
abbrev sgW (p:Addr)(thick m sh extra:Nat)(lf cl ti:V)(pl dr tu on ot:gF V):L2.St:=[My (.ref p),My (.int 8),My (iV thick),My (iV m),My (iV sh),My (iV extra),My lf,My cl,My ti,pl,dr,tu,on,ot]
theorem Mq {m:Nat}{xs:List Nat}{tb te:gK}{ss:List (Int×Int)}(Dr:Drawn m xs tb te)(hpw:ss.Pairwise λ a b=>Tb.pLt a b=Rm)(memss:∀ k,k∈ss↔∃ t∈(tb++te).map (rel xs),k=((t.1:Int),(t.2:Int))) :
  Good (m,ss.map λ k=>(k.1.toNat,k.2.toNat))/\(te=[]->(ss.map λ k=>(k.1.toNat,k.2.toNat)).length+1=m):=by
 refine IB Dr (ss:=ss.map λ k=>(k.1.toNat,k.2.toNat)) ?_ λ t=>?_
 ·rw[bp];refine eu ?_ hpw;intro a b ha hb hab;obtain⟨t,_,rfl⟩:=(memss a).mp ha;obtain⟨u,_,rfl⟩:=(memss b).mp hb;rw[Tb.oh]at hab;rw[kO];simp at hab ⊢;lia
 ·rw[aA]
  constructor
  ·rintro⟨k,hk,rfl⟩;obtain⟨u,hu,rfl⟩:=(memss k).mp hk;simpa using hu
  ·intro ht;exact⟨((t.1:Int),(t.2:Int)),(memss _).mpr ⟨t,ht,rfl⟩,by simp⟩
theorem Jg {H:Hp}{ws:List V}{ss:List (Int×Int)}{l:gK}(memss:∀ k,k∈ss↔∃ t∈l,k=((t.1:Int),(t.2:Int)))(htups:DJ H ws (ss.map λ k=>[k.1,k.2])):TN H ws (ss.map λ k=>(k.1.toNat,k.2.toNat)):=by
 have back:(ss.map λ k=>(k.1.toNat,k.2.toNat)).map (λ t=>((t.1:Int),(t.2:Int)))=ss:=by
  rw[bq];conv=>rhs;rw[<-cT ss]
  refine cm λ k hk=>?_;obtain⟨t,_,rfl⟩:=(memss k).mp hk;simp
 unfold TN;have:(ss.map λ k=>(k.1.toNat,k.2.toNat)).map (λ t=>[(t.1:Int),(t.2:Int)])=ss.map λ k=>[k.1,k.2]:=by
  conv=>rhs;rw[<-back]
  rw[bq,bq,bq];rfl
 rw[this];exact htups
theorem N6 {D:Ends}{σ:L2.St}{p:Addr}{H:Hp}{thick m:Nat}{xs:List Nat}{tb te:gK}{q0:Addr}{H8:Hp}{ys:List V}{n7:Int}(q:QW K p H thick D.rt)(Dr:Drawn m xs tb te)(hte:thick=0->te=[])
  (h3:σ[3]?=My (My (iV m))) (h8:σ[8]?=My (My (.ref q0))) (y8:H8 q0=My (.lst ys)) (tn8:TN H8 ys ((tb++te).map (rel xs))) (p8:H8 p=My (.lst [.int n7])) (b8:But p H H8) (yl:(tb++te).length<=19):wF K w D σ H8:=by
 have hyl:=tn8.len;rw[ah]at hyl;refine⟨_,h3,_,h8,q0,ys,_,rfl,SqL.of y8,tn8,by lia,λ S o ks hS hset hmem=>?_⟩;have s1:gY H8 (upd H8 S o):=gY.upd hS;have S0:H S=Rl:=b8.none hS (bj (ik p8 hS));have b9:But p H (upd H8 S o):=b8.new S0;have p9:=s1 _ _ p8;have ndks:ks.Nodup:=by obtain⟨_,_,_,_,_,_,_,_,_,_,_,nd,_⟩:=hset;exact nd
 generalize upd H8 S o=H9 at b9 p9 hset;have frm:=Ej λ k hk=>(hmem k).mp hk;have ksl:ks.length<=19:=by have:=aK ndks λ k hk=>(hmem k).mp hk;rw[ah,ah]at this;lia
 refine⟨S,ks.map λ k=>(k.getD 0 0,k.getD 1 0),rfl,by rw[frm];exact hset,by rw[ah];lia,λ sp ws ss hsp htups hpw hperm=>?_⟩;have sp0:H sp=Rl:=b9.none hsp (bj (ik p9 hsp));refine⟨sp,ws,rfl,.inl ⟨SqL.of gW,λ tp htp=>?_⟩⟩;have s2:gY H9 (upd (upd H9 sp (.lst ws)) tp (.tup ws)):=(gY.upd hsp).trans (gY.upd htp);have ntsp:tp≠sp:=λ z=>by rw[z,gW]at htp;cases htp
 have htp9:H9 tp=Rl:=by rw[g9 ntsp]at htp;exact htp
 have tp0:H tp=Rl:=b9.none htp9 (bj (ik p9 htp9));have b10:But p H (upd (upd H9 sp (.lst ws)) tp (.tup ws)):=(b9.new sp0).new tp0;have p10:=s2 _ _ p9;have memss:∀ k,k∈ss↔∃ t∈(tb++te).map (rel xs),k=((t.1:Int),(t.2:Int)):=λ k=>by
  rw[hperm.mem_iff,aA];constructor
  ·rintro⟨l0,hl0,rfl⟩;obtain⟨t,ht,rfl⟩:=aA.mp ((hmem l0).mp hl0);exact⟨t,ht,rfl⟩
  ·rintro⟨t,ht,rfl⟩;exact⟨[(t.1:Int),(t.2:Int)],(hmem _).mpr (aA.mpr ⟨t,ht,rfl⟩),rfl⟩
 obtain⟨hgood,hthin⟩:=Mq Dr hpw memss;have hI:Is K (upd (upd H9 sp (.lst ws)) tp (.tup ws)) (.ref tp) _:=Is.tup (SqT.of gW) (A4 ((Jg memss htups).text s2.text));generalize upd (upd H9 sp (.lst ws)) tp (.tup ws)=H10 at b10 p10 hI;refine⟨by show 2<=sizeLine;decide,λ fin hfin=>?_⟩;have s3:gY H10 (upd H10 fin (.tup [.int m,.ref tp])):=gY.upd hfin;have f0:H fin=Rl:=b10.none hfin (bj (ik p10 hfin));exact q _ _ n7 (m,ss.map λ k=>(k.1.toNat,k.2.toNat)) hgood (λ h0=>hthin (hte h0)) (.tup (SqT.of gW) (.cons (.int _) (.cons (hI.ext s3) .nil))) (s3 _ _ p10) (b10.new f0)
theorem N7 {ti:Addr}{Q:VK}{σ:L2.St}{xs:List Nat}{m:Nat}{cl:Addr}{t:Nat×Nat}{H':Hp}(h0:σ[0]?=My (My (iV t.1)))(h1:σ[1]?=My (My (iV t.2)))(h2:σ[2]?=My (My (.ref cl)))(c7:H' cl=My (.lst (xs.map iV)))(l1:t.1<xs.length)(l2:t.2<xs.length)
  (q:∀ tt,H' tt=Rl->Q (.ref tt) (upd H' tt (.tup [.int (rel xs t).1,.int (rel xs t).2]))):eN K σ H' Q:=by
 have a1:=Ky (xs:=xs) l1;have a2:=Ky (xs:=xs) l2;refine⟨_,h2,_,h0,cl,_,_,_,rfl,rfl,SqL.of c7,a1,_,h2,_,h1,cl,_,_,_,rfl,rfl,SqL.of c7,a2,_,_,rfl,_,h2,_,h0,cl,_,_,_,rfl,rfl,SqL.of c7,a1,_,h2,_,h1,cl,_,_,_,rfl,rfl,SqL.of c7,a2,_,_,rfl,by show 2<=sizeLine;decide,λ tt htt=>?_⟩;have erel:([V.int (if ((xs.getD t.2 0:Nat):Int)<((xs.getD t.1 0:Nat):Int) then ((xs.getD t.2 0:Nat):Int) else ((xs.getD t.1 0:Nat):Int)),V.int (if ((xs.getD t.2 0:Nat):Int)>((xs.getD t.1 0:Nat):Int) then ((xs.getD t.2 0:Nat):Int) else ((xs.getD t.1 0:Nat):Int))]:List V)=[.int (rel xs t).1,.int (rel xs t).2]:=by unfold rel;simp only[List.cons.injEq,V.int.injEq,and_true];constructor<;>(split<;>lia)
 rw[erel];exact q tt htt
def iE (p:Addr)(H:Hp)(xs:List Nat)(tb te:gK)(cl ti:Addr)(vs:List V)(n7:Int):Nat->Nat->List V->Hp->Prop:=λ i mm ys H'=>mm=vs.length-i/\i<=vs.length/\ys.length=i/\TN H' ys (((tb++te).take i).map (rel xs))/\H' ti=My (.lst vs)/\TN H' vs (tb++te)/\H' cl=My (.lst (xs.map iV))/\H' p=My (.lst [.int n7])/\But p H H'
theorem N8 {D:Ends}{p:Addr}{H:Hp}{thick m sh extra:Nat}{xs:List Nat}{tb te:gK}{lf cl ti:Addr}{pl dr tu on ot:gF V}{H7:Hp}{vs:List V}{n7:Int}(q:QW K p H thick D.rt)(Dr:Drawn m xs tb te)(hte:thick=0->te=[])
  (t7:H7 ti=My (.lst vs)) (tn7:TN H7 vs (tb++te)) (c7:H7 cl=My (.lst (xs.map iV))) (p7:H7 p=My (.lst [.int n7])) (b7:But p H H7) (hl:(tb++te).length<=19):wE K w D (sgW p thick m sh extra (.ref lf) (.ref cl) (.ref ti) pl dr tu on ot) H7:=by
 have hvl:=tn7.len;refine⟨_,rfl,ti,rfl,⟨_,SqL.of t7⟩,iE p H xs tb te cl ti vs n7,
  ⟨vs.length,rfl,aQ _,rfl,.nil,t7,tn7,c7,p7,b7⟩,?_⟩
 clear t7 tn7 c7 p7 b7;rintro i mm ys H' ⟨rfl,hiv,hyl,tny,t7,tn7,c7,p7,b7⟩;rcases Nat.lt_or_ge i vs.length with hi' | hi'
 ·right
  have hxi:vs[i]?=My vs[i]:=by simp[hi']
  obtain⟨t,b,et,ev,hb⟩:=tn7.get hxi;have htm:=Dr.all (aY et);have hxl:xs.length=m:=Dr.len;refine⟨⟨vs,vs[i],SqL.of t7,hxi⟩,by rw[sizeLine_eq];lia,λ x H'' ⟨e1,yx⟩=>?_⟩;subst e1;have ex:=yx vs (SqL.of t7);rw[hxi]at ex;have ex:=ak ex;subst ex;refine⟨b,_,ev,SqT.of hb,rfl,_,_,rfl,_,_,rfl,rfl,?_⟩;dsimp only [Fc];refine By ?_;refine N7 (ti:=ti) (m:=m) (t:=t) rfl rfl rfl c7 (by lia) (by lia) λ tt htt=>?_;have sm:gY H'' (upd H'' tt (.tup [.int (rel xs t).1,.int (rel xs t).2])):=gY.upd htt;have tt0:H tt=Rl:=b7.none htt (bj (ik p7 htt));refine⟨vs.length-(i+1),by lia,rfl,hi',by simp[hyl],?_,sm _ _ t7,tn7.text sm.text,sm _ _ c7,sm _ _ p7,b7.new tt0⟩;rw[eX,et,bD];exact(tny.text sm.text).snoc (t:=rel xs t) gW
 ·left
  have hi2:vs.length=i:=by lia
  subst hi2;rw[dP (by lia)]at tny;refine⟨⟨vs,SqL.of t7,ar _⟩,λ q0 hq0=>?_⟩;have s0:gY H' (upd H' q0 (.lst ys)):=gY.upd hq0;exact N6 (D:=D) q Dr hte rfl rfl gW (tny.text s0.text) (s0 _ _ p7) (b7.new (b7.none hq0 (bj (ik p7 hq0)))) hl
theorem Mr {D:Ends}{p:Addr}{thick m sh extra:Nat}{lf cl ti:Addr}{pl dr tu on ot:gF V}{H':Hp}{vs:List V}{n7:Int}(m2:0<m)(m8:m<=8)(p7:H' p=My (.lst [.int n7]))(t7:H' ti=My (.lst vs))(ntp:ti≠p)(hvl:vs.length<=60)
  (h1:∀ (o1 o2:Nat) (n9:Int) on ot,D.nx (sgW p thick m sh extra (.ref lf) (.ref cl) (.ref ti) pl dr tu on ot) (upd H' p (.lst [.int n9])))
  (h2:∀ (o1 o2:Nat) (n9:Int) on ot tt,o1<m->o2<m->o1≠o2->upd H' p (.lst [.int n9]) tt=Rl->D.nx (sgW p thick m sh extra (.ref lf) (.ref cl) (.ref ti) pl dr tu on ot) (upd (upd (upd H' p (.lst [.int n9])) tt (.tup [.int o1,.int o2])) ti (.lst (vs++[.ref tt])))) :
  b2 K D (sgW p thick m sh extra (.ref lf) (.ref cl) (.ref ti) pl dr tu on ot) H':=by
 have mp:(0:Int)<m:=by lia
 refine⟨_,rfl,_,rfl,p,n7,_,rfl,p7,mp,by show(m:Int)<_;lia,?_⟩;dsimp only;obtain⟨o1,ho1,o1m⟩:∃ d:Nat,n7 % (m:Int)=d/\d<m:=⟨(n7 % (m:Int)).toNat,by have:=cg n7 (show(m:Int)≠0 by lia);lia,by have:=cL n7 mp;have:=cg n7 (show(m:Int)≠0 by lia);lia⟩;rw[ho1];generalize n7 / (m:Int)=n8;have p8:upd H' p (.lst [.int n8]) p=My (.lst [.int n8]):=gW;refine⟨_,rfl,_,rfl,p,n8,_,rfl,p8,mp,by show(m:Int)<_;lia,?_⟩;dsimp only;obtain⟨o2,ho2,o2m⟩:∃ d:Nat,n8 % (m:Int)=d/\d<m:=⟨(n8 % (m:Int)).toNat,by have:=cg n8 (show(m:Int)≠0 by lia);lia,by have:=cL n8 mp;have:=cg n8 (show(m:Int)≠0 by lia);lia⟩;rw[ho2];generalize n8 / (m:Int)=n9;have e9:upd (upd H' p (.lst [.int n8])) p (.lst [.int n9])=upd H' p (.lst [.int n9]):=by funext b;unfold upd;split<;>rfl
 rw[e9];have t8:upd H' p (.lst [.int n9]) ti=My (.lst vs):=by rw[g9 ntp];exact t7
 refine⟨_,rfl,_,rfl,rfl,_,rfl,?_⟩;refine Lk (λ hne=>?_) (λ _=>h1 o1 o2 n9 _ _);have hne:o1≠o2:=λ e=>by subst e;simp at hne
 refine⟨_,rfl,.inl ⟨rfl,_,SqL.of t8⟩,_,rfl,_,rfl,by show 2<=sizeLine;decide,λ tt htt=>?_⟩;refine⟨ti,vs,_,rfl,rfl,(gY.upd htt) _ _ t8,by rw[sizeLine_eq];lia,h2 o1 o2 n9 _ _ tt o1m o2m hne htt⟩
def iD (p : Addr)(H : Hp)(thick m sh extra : Nat)(xs : List Nat)(tb : List (Nat × Nat))(lf cl ti : Addr) : Nat -> L2.St -> Hp -> Prop := λ i σ' H' => ∃ (te : List (Nat × Nat)) (vs : List V) (n7 : Int) (pl dr tu on ot : gF V), σ' = sgW p thick m sh extra (.ref lf) (.ref cl) (.ref ti) pl dr tu on ot /\
      te.length <= i /\ (∀ t ∈ te, t.1 < m /\ t.2 < m /\ t.1 ≠ t.2) /\ H' ti = My (.lst vs) /\ TN H' vs (tb ++ te) /\ H' cl = My (.lst (xs.map iV)) /\ H' p = My (.lst [.int n7]) /\ But p H H'
theorem N9 {D:Ends}{p:Addr}{H:Hp}{thick m sh extra:Nat}{xs:List Nat}{tb:gK}{lf cl ti:Addr}{pl dr:gF V}{H7:Hp}{vs:List V}{n7:Int}(q:QW K p H thick D.rt)(m2:2<=m)(m8:m<=8)(perm:xs.Perm (Ro m))
  (htl:tb.length=m-1) (htk:∀ k,k<m-1->∃ a,tb[k]?=My (a,k+1)/\a<=k) (hex2:extra<=12) (hex0:thick=0->extra=0) (ntp:ti≠p) (ntc:ti≠cl) (ncp:cl≠p) (hti0:H ti=Rl)
  (t7:H7 ti=My (.lst vs)) (tn7:TN H7 vs tb) (c7:H7 cl=My (.lst (xs.map iV))) (p7:H7 p=My (.lst [.int n7])) (b7:But p H H7):wD K w D (sgW p thick m sh extra (.ref lf) (.ref cl) (.ref ti) pl dr Rl Rl Rl) H7:=by
 have hext:((extra:Nat):Int).toNat=extra:=by lia
 refine⟨_,rfl,extra,rfl,by lia,by lia,mK (lo:=0) (n:=((extra:Nat):Int).toNat) (iD p H thick m sh extra xs tb lf cl ti)
  ⟨[],vs,n7,pl,dr,Rl,Rl,Rl,rfl,ar _,(λ t ht=>by cases ht),t7,(by rw[bt];exact tn7),c7,p7,b7⟩ ?_ ?_⟩
 ·clear t7 tn7 c7 p7 b7
  rintro i σ' H' hi ⟨te,vs,n7,pl,dr,tu,on,ot,rfl,tel,teo,t7,tn7,c7,p7,b7⟩;have hvl:=tn7.len;rw[aC,htl]at hvl;have tx (n9:Int):j_ H' (upd H' p (.lst [.int n9])):=j_.upd (by rw[p7];trivial);refine Mr (by lia) m8 p7 t7 ntp (by lia) (λ o1 o2 n9 on ot=>⟨te,vs,n9,_,_,_,_,_,rfl,by lia,teo,?_,tn7.text (tx n9),?_,gW,b7.sP⟩) λ o1 o2 n9 on ot tt o1m o2m hne htt=>?_
  ·rw[g9 ntp];exact t7
  ·rw[g9 ncp];exact c7
  ·have t8:upd H' p (.lst [.int n9]) ti=My (.lst vs):=by rw[g9 ntp];exact t7
   have c8:upd H' p (.lst [.int n9]) cl=My (.lst (xs.map iV)):=by rw[g9 ncp];exact c7
   have p8:upd H' p (.lst [.int n9]) p=My (.lst [.int n9]):=gW;have b8:But p H (upd H' p (.lst [.int n9])):=b7.sP;have tn8:=tn7.text (tx n9);generalize upd H' p (.lst [.int n9])=H8 at tn8 t8 c8 p8 b8 htt;have sm:gY H8 (upd H8 tt (.tup [.int o1,.int o2])):=gY.upd htt;have tt0:H tt=Rl:=b8.none htt (bj (ik p8 htt));have b9:=b8.new tt0 (o:=.tup [.int o1,.int o2]);have tu9:upd H8 tt (.tup [.int o1,.int o2]) tt=My (.tup [.int o1,.int o2]):=gW;have t9:=sm _ _ t8;have c9:=sm _ _ c8;have p9:=sm _ _ p8;have tn9:=tn8.text sm.text;generalize upd H8 tt (.tup [.int o1,.int o2])=H9 at b9 tu9 t9 c9 p9 tn9;have tx:j_ H9 (upd H9 ti (.lst (vs++[.ref tt]))):=j_.upd (by rw[t9];trivial);refine⟨te++[(o1,o2)],vs++[.ref tt],n9,_,_,_,_,_,rfl,by rw[aC,aZ];lia,λ t ht=>?_,gW,?_,by rw[g9 (bj ntc)];exact c9,by rw[g9 (bj ntp)];exact p9,b9.new hti0⟩
   ·rcases aM.mp ht with z | z
    ·exact teo t z
    ·rw[aV.mp z];exact⟨o1m,o2m,hne⟩
   ·rw[<-cw];exact(tn9.snoc (t:=(o1,o2)) tu9).text tx
 ·clear t7 tn7 c7 p7 b7;rintro σ' H' ⟨te,vs,n7,pl,dr,tu,on,ot,rfl,tel,teo,t7,tn7,c7,p7,b7⟩;rw[hext]at tel;exact N8 (D:=D) q ⟨m2,m8,perm,htl,htk,teo,by lia⟩ (λ h0=>dF.mp (by have:=hex0 h0;lia)) t7 tn7 c7 p7 b7 (by rw[aC];lia)
theorem Ms {D:Ends}{p:Addr}{thick m sh extra i:Nat}{lf cl ti:Addr}{dr tu on ot:gF V}{H':Hp}{vs:List V}{n7:Int}(hi:i<8)(sh4:sh<4)(p7:H' p=My (.lst [.int n7]))(t7:H' ti=My (.lst vs))(ntp:ti≠p)(hvl:vs.length<=60)
  (h:∀ (a dr':Nat) (n8:Int) q4 tu',a<=i->upd H' p (.lst [.int n8]) q4=Rl->upd (upd H' p (.lst [.int n8])) q4 (.lst [V.int (1+(i:Int)-1),iV dr',iV dr',V.int 0]) tu'=Rl ->
   D.nx (sgW p thick m sh extra (.ref lf) (.ref cl) (.ref ti) (My (.int (1+(i:Int)))) (My (iV dr')) tu on ot) (upd (upd (upd (upd H' p (.lst [.int n8])) q4 (.lst [V.int (1+(i:Int)-1),iV dr',iV dr',V.int 0])) tu' (.tup [iV a,.int (1+(i:Int))])) ti (.lst (vs++[.ref tu'])))) :
  b1 K D (sgW p thick m sh extra (.ref lf) (.ref cl) (.ref ti) (My (.int (1+(i:Int)))) dr tu on ot) H':=by
 refine⟨_,rfl,_,rfl,p,n7,_,rfl,p7,by lia,by lia,?_⟩;dsimp only;obtain⟨dr',hdr,dri⟩:∃ d:Nat,n7 % (1+(i:Int))=d/\d<=i:=⟨(n7 % (1+(i:Int))).toNat,by have:=cg n7 (show(1+(i:Int))≠0 by lia);lia,by have:=cL n7 (show(0:Int)<1+(i:Int) by lia);have:=cg n7 (show(1+(i:Int))≠0 by lia);lia⟩;rw[hdr];generalize n7 / (1+(i:Int))=n8;have t8:upd H' p (.lst [.int n8]) ti=My (.lst vs):=by rw[g9 ntp];exact t7
 obtain⟨pa',hpa,pai⟩:∃ a:Nat,([V.int (1+(i:Int)-1),iV dr',iV dr',V.int 0]:List V)[sh]?=My (iV a)/\a<=i:=by
  rcases (by lia:sh=0\/sh=1\/sh=2\/sh=3) with rfl | rfl | rfl | rfl
  ·exact⟨i,by simp[iV];lia,by lia⟩
  ·exact⟨dr',rfl,dri⟩
  ·exact⟨dr',rfl,dri⟩
  ·exact⟨0,rfl,by lia⟩
 refine⟨_,rfl,.inl ⟨rfl,_,SqL.of t8⟩,_,rfl,_,_,rfl,rfl,_,rfl,_,rfl,by show 4<=sizeLine;decide,λ q4 hq4=>?_⟩;refine⟨_,rfl,q4,_,_,iV pa',rfl,rfl,SqL.of gW,lR hpa,_,rfl,by show 2<=sizeLine;decide,λ tu htu=>?_⟩;exact⟨ti,vs,_,rfl,rfl,((gY.upd hq4).trans (gY.upd htu)) _ _ t8,by rw[sizeLine_eq];lia,h pa' dr' n8 q4 tu pai hq4 htu⟩
def iC (p : Addr)(H : Hp)(thick m sh extra : Nat)(xs : List Nat)(lf cl ti : Addr) : Nat -> L2.St -> Hp -> Prop := λ i σ' H' => ∃ (tb : List (Nat × Nat)) (vs : List V) (n7 : Int) (pl dr : gF V), σ' = sgW p thick m sh extra (.ref lf) (.ref cl) (.ref ti) pl dr Rl Rl Rl /\
      tb.length = i /\ (∀ k, k < i -> ∃ a, tb[k]? = My (a, k + 1) /\ a <= k) /\ H' ti = My (.lst vs) /\ TN H' vs tb /\ H' cl = My (.lst (xs.map iV)) /\ H' p = My (.lst [.int n7]) /\ But p H H'
theorem N_ {D:Ends}{p:Addr}{H:Hp}{thick m sh extra:Nat}{xs:List Nat}{lf cl:Addr}{H6:Hp}{n5:Int}(q:QW K p H thick D.rt)(m2:2<=m)(m8:m<=8)(sh4:sh<4)(perm:xs.Perm (Ro m))(hex2:extra<=12)(hex0:thick=0->extra=0)(ncp:cl≠p)
  (c6:H6 cl=My (.lst (xs.map iV))) (p6:H6 p=My (.lst [.int n5])) (b6:But p H H6):wC K w D [My (.ref p),My (.int 8),My (iV thick),My (iV m),My (iV sh),My (iV extra),My (.ref lf),My (.ref cl),Rl,Rl,Rl,Rl,Rl,Rl] H6:=by
 refine⟨aQ _,λ ti hti=>?_⟩;have ntp:ti≠p:=λ z=>by subst z;rw[p6]at hti;cases hti
 have ntc:ti≠cl:=λ z=>by subst z;rw[c6]at hti;cases hti
 have hti0:H ti=Rl:=b6.none hti ntp;have hm1:((m:Int)-1).toNat=m-1:=by lia
 refine⟨_,rfl,1,m,rfl,⟨by lia,by lia,by lia,by lia⟩,mK (lo:=1) (n:=((m:Int)-1).toNat) (iC p H thick m sh extra xs lf cl ti)
  ⟨[],[],n5,Rl,Rl,rfl,rfl,λ k hk=>by lia,gW,.nil,by rw[g9 (bj ntc)];exact c6,by rw[g9 (bj ntp)];exact p6,b6.new hti0⟩ ?_ ?_⟩
 ·clear c6 p6 b6
  rintro i σ' H' hi ⟨tb,vs,n7,pl,dr,rfl,htl,htk,t7,tn7,c7,p7,b7⟩;have hi1:i<m-1:=by lia
  refine Ms (by lia) sh4 p7 t7 ntp (by rw[tn7.len];lia) λ pa' dr' n8 q4 tu pai hq4 htu=>?_;have tn8:=tn7.text (j_.upd (o:=.lst [.int n8]) (by rw[p7];trivial));have t8:upd H' p (.lst [.int n8]) ti=My (.lst vs):=by rw[g9 ntp];exact t7
  have c8:upd H' p (.lst [.int n8]) cl=My (.lst (xs.map iV)):=by rw[g9 ncp];exact c7
  have p8:upd H' p (.lst [.int n8]) p=My (.lst [.int n8]):=gW;have b8:But p H (upd H' p (.lst [.int n8])):=b7.sP;generalize upd H' p (.lst [.int n8])=H8 at tn8 t8 c8 p8 b8 hq4 htu;clear tn7 t7 c7 p7 b7;generalize [V.int (1+(i:Int)-1),iV dr',iV dr',V.int 0]=l4 at htu;have ntq:tu≠q4:=λ y=>by rw[y,gW]at htu;cases htu
  have htu8:H8 tu=Rl:=by rw[g9 ntq]at htu;exact htu
  have q40:H q4=Rl:=b8.none hq4 (bj (ik p8 hq4));have tu0:H tu=Rl:=b8.none htu8 (bj (ik p8 htu8));have sm:gY H8 (upd (upd H8 q4 (.lst l4)) tu (.tup [iV pa',.int (1+(i:Int))])):=(gY.upd hq4).trans (gY.upd htu);have b9:=(b8.new q40 (o:=.lst l4)).new tu0 (o:=.tup [iV pa',.int (1+(i:Int))]);have tu9:upd (upd H8 q4 (.lst l4)) tu (.tup [iV pa',.int (1+(i:Int))]) tu=My (.tup [iV pa',.int (1+(i:Int))]):=gW;have t9:=sm _ _ t8;have c9:=sm _ _ c8;have p9:=sm _ _ p8;have tn9:=tn8.text sm.text;generalize upd (upd H8 q4 (.lst l4)) tu (.tup [iV pa',.int (1+(i:Int))])=H9 at b9 tu9 t9 c9 p9 tn9;have tx:j_ H9 (upd H9 ti (.lst (vs++[.ref tu]))):=j_.upd (by rw[t9];trivial);refine⟨tb++[(pa',i+1)],vs++[.ref tu],n8,_,_,rfl,by rw[aC,aZ,htl],λ k hk=>?_,gW,?_,by rw[g9 (bj ntc)];exact c9,by rw[g9 (bj ntp)];exact p9,b9.new hti0⟩
  ·by_cases hki:k<i
   ·obtain⟨a,ea,ha⟩:=htk k hki;exact⟨a,by rw[bL (by lia)];exact ea,ha⟩
   ·have:k=i:=by lia
    subst this;exact⟨pa',by rw[bH (by lia)];simp[htl],pai⟩
  ·refine(tn9.snoc (t:=(pa',i+1)) ?_).text tx;rw[tu9];simp[iV];lia
 ·rintro σ' H' ⟨tb,vs,n7,pl,dr,rfl,htl,htk,t7,tn7,c7,p7,b7⟩;rw[hm1]at htl htk;exact N9 (D:=D) q m2 m8 perm htl htk hex2 hex0 ntp ntc ncp hti0 t7 tn7 c7 p7 b7
theorem Oa {Q:VK}{σ:L2.St}{p lf:Addr}{L:List Nat}{n5:Int}{H':Hp}(h1:σ[1]?=My (My (.ref lf)))(h2:σ[2]?=My (My (.ref p)))(nlp:lf≠p)(hL:0<L.length)(hL8:L.length<=8)(l5:H' lf=My (.lst (L.map iV)))(p5:H' p=My (.lst [.int n5]))
  (q:∀ (j:Nat) (n6:Int) (jl:j<L.length),Q (iV L[j]) (upd (upd H' p (.lst [.int n6])) lf (.lst ((L.map iV).eraseIdx j)))):eC K σ H' Q:=by
 obtain⟨j,hj,jl⟩:∃ j:Nat,n5 % ((L.map iV).length:Int)=j/\j<L.length:=by rw[ah];exact⟨(n5 % (L.length:Int)).toNat,by have:=cg n5 (show(L.length:Int)≠0 by lia);lia,by have:=cL n5 (show(0:Int)<L.length by lia);have:=cg n5 (show(L.length:Int)≠0 by lia);lia⟩
 refine⟨_,h1,.inl ⟨rfl,_,SqL.of l5⟩,_,h2,_,h1,lf,_,rfl,.inl (SqL.of l5),p,n5,_,rfl,p5,by rw[ah];lia,by rw[ah];lia,?_⟩;rw[hj];have l6:upd H' p (.lst [.int (n5 / ((L.map iV).length:Int))]) lf=My (.lst (L.map iV)):=by rw[g9 nlp];exact l5
 refine⟨lf,_,_,j,iV L[j],rfl,rfl,l6,by lia,by lia,?_,by simp[jl],q j _ jl⟩;rw[ah];have:=seqIndex_of (k:=(j:Int)) (n:=L.length) (by lia) (by lia);simpa using this
def iB (p:Addr)(H:Hp)(m:Nat)(lf:Addr):Nat->Nat->List V->Hp->Prop:=λ i mm ys H5=>mm=m-i/\i<=m/\∃ (xs L:List Nat) (n5:Int),ys=xs.map iV/\xs.length=i/\L.length=m-i/\(xs++L).Perm (Ro m)/\H5 lf=My (.lst (L.map iV))/\H5 p=My (.lst [.int n5])/\But p H H5
theorem Ob {D:Ends}{p:Addr}{H:Hp}{thick m sh extra:Nat}{lf:Addr}{H4:Hp}{n3:Int}(q:QW K p H thick D.rt)(m2:2<=m)(m8:m<=8)(sh4:sh<4)(hex2:extra<=12)(hex0:thick=0->extra=0)(nlp:lf≠p)(hlf0:H lf=Rl)
  (l4:H4 lf=My (.lst ((Ro m).map iV))) (p4:H4 p=My (.lst [.int n3])) (b4:But p H H4):wB K w D [My (.ref p),My (.int 8),My (iV thick),My (iV m),My (iV sh),My (iV extra),My (.ref lf),Rl,Rl,Rl,Rl,Rl,Rl,Rl] H4:=by
 refine⟨_,rfl,m,rfl,by lia,by lia,iB p H m lf,⟨m,rfl,aQ _,[],Ro m,n3,rfl,rfl,by simp,by simp,l4,p4,b4⟩,?_⟩;clear l4 p4 b4;rintro i mm ys H5 ⟨rfl,him,xs,L,n5,rfl,hxs,hL,perm,l5,p5,b5⟩;rcases Nat.lt_or_ge i m with him' | him'
 ·right
  refine⟨by show i<(m:Int).toNat;lia,by rw[ah,sizeLine_eq];lia,λ x H' ⟨e1,e2⟩=>?_⟩;subst e1;dsimp only [iM,Fc];refine By ?_;refine Oa (L:=L) rfl rfl nlp (by lia) (by lia) l5 p5 λ j n6 jl=>?_;refine⟨m-(i+1),by lia,rfl,by lia,xs++[L[j]],L.eraseIdx j,n6,by simp[iV],by simp[hxs],?_,?_,?_,by rw[g9 (bj nlp)];exact gW,(b5.sP).new hlf0⟩
  ·rw[List.length_eraseIdx,ai jl];lia
  ·refine List.Perm.trans ?_ perm;rw[cw];exact List.Perm.append_left xs (wM L jl)
  ·rw[gW,yk]
 ·left
  have hi:m=i:=by lia
  subst hi;have hL0:L=[]:=dF.mp (by lia);subst hL0;rw[bt]at perm;refine⟨by show(m:Int).toNat<=m;lia,λ cl hcl=>?_⟩;have ncp:cl≠p:=λ z=>by subst z;rw[p5]at hcl;cases hcl
  exact N_ (D:=D) q m2 m8 sh4 perm hex2 hex0 ncp gW (by rw[g9 (bj ncp)];exact p5) (b5.new (b5.none hcl ncp))
theorem Oc {D:Ends}{p:Addr}{H:Hp}{thick:Nat}{n:Int}(q:QW K p H thick D.rt)(hth:thick<=1)(hp:H p=My (.lst [.int n])):wA K w D [My (.ref p),My (.int 8),My (.int thick),Rl,Rl,Rl,Rl,Rl,Rl,Rl,Rl,Rl,Rl,Rl] H:=by
 refine⟨_,rfl,_,rfl,_,_,rfl,rfl,p,n,_,rfl,hp,by decide,by decide,_,_,rfl,rfl,?_⟩;dsimp only;obtain⟨m,hm,m2,m8⟩:∃ m:Nat,(2:Int)+n % (8-1)=m/\2<=m/\m<=8:=⟨(2+n % (8-1)).toNat,by lia,by lia,by lia⟩;rw[hm];generalize n / (8-1)=n1;have b1:But p H (upd H p (.lst [.int n1])):=(But.refl p H).sP;generalize hH1:upd H p (.lst [.int n1])=H1 at b1;have p1:H1 p=My (.lst [.int n1]):=by rw[<-hH1];exact gW
 clear hH1;refine⟨_,rfl,p,n1,_,rfl,p1,by decide,by decide,?_⟩;dsimp only;obtain⟨sh,hsh,sh4⟩:∃ sh:Nat,n1 % 4=sh/\sh<4:=⟨(n1 % 4).toNat,by lia,by lia⟩;rw[hsh];generalize n1 / 4=n2;have b2:But p H (upd H1 p (.lst [.int n2])):=b1.sP;generalize hH2:upd H1 p (.lst [.int n2])=H2 at b2;have p2:H2 p=My (.lst [.int n2]):=by rw[<-hH2];exact gW
 clear hH2;refine⟨by show 4<=sizeLine;decide,λ a4 h4=>?_⟩;have np4:a4≠p:=λ z=>by subst z;rw[p2]at h4;cases h4
 have p3:upd H2 a4 (.lst [.int 0,.int 1,.int 2,.int 12]) p=My (.lst [.int n2]):=by rw[g9 (bj np4)];exact p2
 refine⟨_,rfl,p,n2,_,rfl,p3,by decide,by decide,?_⟩;dsimp only;obtain⟨ei,hei,ei4⟩:∃ ei:Nat,n2 % 4=ei/\ei<4:=⟨(n2 % 4).toNat,by lia,by lia⟩;rw[hei];generalize n2 / 4=n3;obtain⟨ex,hex,ex12⟩:∃ ex:Nat,([V.int 0,V.int 1,V.int 2,V.int 12]:List V)[ei]?=My (.int ex)/\ex<=12:=by
  rcases (by lia:ei=0\/ei=1\/ei=2\/ei=3) with rfl | rfl | rfl | rfl
  ·exact⟨0,rfl,by lia⟩
  ·exact⟨1,rfl,by lia⟩
  ·exact⟨2,rfl,by lia⟩
  ·exact⟨12,rfl,by lia⟩
 have b3:But p H (upd (upd H2 a4 (.lst [.int 0,.int 1,.int 2,.int 12])) p (.lst [.int n3])):=(b2.new (b2.none h4 np4)).sP;refine⟨a4,_,_,.int ex,rfl,rfl,SqL.of (by rw[g9 np4];exact gW),lR hex,?_⟩;generalize hH3:upd (upd H2 a4 (.lst [.int 0,.int 1,.int 2,.int 12])) p (.lst [.int n3])=H3 at b3;have p3:H3 p=My (.lst [.int n3]):=by rw[<-hH3];exact gW
 clear hH3;refine⟨_,rfl,_,_,rfl,rfl,.inl ⟨by lia,by lia⟩,?_⟩;dsimp only;rw[show(ex:Int)*(thick:Int)=((ex*thick:Nat):Int) by simp];have hex2:ex*thick<=12:=by have:=Nat.mul_le_mul ex12 hth;lia
 have hex0:thick=0->ex*thick=0:=λ h=>by rw[h];simp
 generalize ex*thick=extra at hex2 hex0;refine⟨_,rfl,_,rfl,λ r hr0=>?_⟩;refine⟨r,m,rfl,gW,by lia,λ lf hlf=>?_⟩;have nrp:r≠p:=λ z=>by subst z;rw[p3]at hr0;cases hr0
 have nlr:lf≠r:=λ z=>by subst z;rw[gW]at hlf;cases hlf
 have hlf3:H3 lf=Rl:=by rw[g9 nlr]at hlf;exact hlf
 have nlp:lf≠p:=λ z=>by subst z;rw[p3]at hlf3;cases hlf3
 have hlf0:H lf=Rl:=b3.none hlf3 nlp;exact Ob (D:=D) q m2 m8 sh4 hex2 hex0 nlp hlf0 gW (by rw[g9 (bj nlp),g9 (bj nrp)];exact p3) ((b3.new (b3.none hr0 nrp)).new hlf0)
theorem Mt (T:Txt K mg):OkT P w base T.oQ 2 (Kz K):=by
 refine T.oQ.F.ok ji (λ vs H Q E h=>?_) (λ cdv A outer s H vs Q E hr h=>?_)
 ·obtain⟨p,n,thick,rfl,_⟩:=h;rfl
 ·obtain⟨p,n,thick,rfl,hth,hp,q⟩:=h
  have hu:(A.deeper (envOfC "_law_web" (gZ qW) s.heap.objs.size T.oQ.f cdv)).units+64<cLine:=by have:=hr.un;lia
  have hrt:jt 1 _:=hr.mono (by decide);refine⟨wA K w,g0 (iX (i:=3) ji.nd rfl (Or.inl rfl) (jv pD hJ (pC T.iK (jF T) hr (gP (pv 0) (gP (jv yt (pv 1) hJ) g_)))))
   (g0 (iX (i:=4) ji.nd rfl (Or.inl rfl) (pC T.iK (jF T) hr (gP (pv 0) (gP hJ g_))))
   (g0 (iX (i:=5) ji.nd rfl (Or.inl rfl) (jv sZ (lu kz (jP (gP hJ (gP hJ (gP hJ (gP hJ g_))))) (pC T.iK (jF T) hr (gP (pv 0) (gP hJ g_))) (λ _ _=>rfl)) (pv 2)))
   (g0 (iX (i:=6) ji.nd rfl (Or.inr rfl) (kX (vQ rfl) rfl T.wH boot_list (gP (kX ui rfl T.jT boot_range (gP (pv 3) g_)) g_)))
   (g0 (iX (i:=7) ji.nd rfl (Or.inr rfl) (Fd (te:=tBM K "list" Bv (hX 1) (gX (jo kr [] E0 (gX (hX 2) (gX (tCB (GY K) (gX (hX 1) iA)) iA))) iA)) rfl (csc ["_law_turn"] ["_law_left","_law_pot_here"] [6,0]) (lN rfl T.jT (gP (pv 3) g_)) (λ _ _ _ _=>pgo 0) jI (λ _ _ _ _=>BL)
     (λ _ _ _ _=>xI dM PySem.F.slot_list_pop PySem.F.type_list_pop EN (pv 1) (gP (pC T.iK (jF T) hr (gP (pv 2) (gP (jH lx (by rfl) T.pZ cz (gP (pv 1) g_)) g_))) g_))))
   (g0 (iX (i:=8) ji.nd rfl (Or.inl rfl) (jP g_))
   (g0 (mQ bP rfl (xC rfl T.jT (gP hJ (gP (pv 3) g_))) (pgo 9)
    (g0 (iX (i:=10) ji.nd rfl (Or.inl rfl) (pC T.iK (jF T) hr (gP (pv 0) (gP (pv 9) g_))))
    (iW (uK (xI dM eA eB tm (pv 8) (gP (mf (gP (lu kz (jP (gP (jv yt (pv 9) hJ) (gP (pv 10) (gP (pv 10) (gP hJ g_))))) (pv 4) (λ _ _=>rfl)) (gP (pv 9) g_))) g_))))))
   (g0 (mQ bP rfl (lN rfl T.jT (gP (pv 5) g_)) (pgo 11)
    (g0 (iX (i:=12) ji.nd rfl (Or.inl rfl) (pC T.iK (jF T) hr (gP (pv 0) (gP (pv 3) g_))))
    (g0 (iX (i:=13) ji.nd rfl (Or.inl rfl) (pC T.iK (jF T) hr (gP (pv 0) (gP (pv 3) g_))))
    (iW (qy (rz JV (pv 12) (pv 13) (s_ _)) (iW (uK (xI dM eA eB tm (pv 8) (gP (mf (gP (pv 12) (gP (pv 13) g_))) g_)))) lQ)))))
   (g0 (Kd (i:=8) (g:=EB K 2 (t_ (iM 0) (t_ (iM 1) EA))) (te:=pg (gX (tCB Jd (gX (tOp (pF K) (hX 2) (hX 0)) (gX (tOp (pF K) (hX 2) (hX 1)) iA))) (gX (tCB Je (gX (tOp (pF K) (hX 2) (hX 0)) (gX (tOp (pF K) (hX 2) (hX 1)) iA))) iA))) ji.nd rfl (Or.inl rfl) rfl (csc ["_law_one","_law_other"] ["_law_called"] [7]) (rq (pv 8)) (λ _ _ _ _=>nZ rfl (je (pgo 0) (je (pgo 1) mE))) (rJ (kc (by decide) (kc (by decide) qd))) (λ _ _ _ _=>BL)
     (λ _ _ _ _=>mf (gP (jH (tj (by rfl)) (by rfl) T.GR boot_min (gP (lu kz (pv 2) (pv 0) (λ _ _=>rfl)) (gP (lu kz (pv 2) (pv 1) (λ _ _=>rfl)) g_))) (gP (jH (tf (by rfl)) (by rfl) T.GS boot_max (gP (lu kz (pv 2) (pv 0) (λ _ _=>rfl)) (gP (lu kz (pv 2) (pv 1) (λ _ _=>rfl)) g_))) g_))))
   (iW (kG (mf (gP (pv 3) (gP (kX qz rfl T.kD boot_tuple (gP (jH (vF rfl) rfl T.p_ boot_sorted (gP (kX (Fi rfl hu) rfl T.Kx boot_set (gP (pv 8) g_)) g_)) g_)) g_))))))))))))),?_⟩
  exact Oc q hth hp
end
end K01
namespace L2
open PySem PySem.Spec PyProof.Rows Zp
inductive tW:List Expr->List Str->Prop
 | nil:tW [] []
 | cons {a:Str} {k:Nat} {p:Pos} {es:List Expr} {ss:List Str}:tW es ss->tW (.Constant (.str a) k p::es) (a::ss)
theorem tW.pd {X:Cx}{es:List Expr}{ss:List Str}(h:tW es ss):PDs X es (λ _=>My (ss.map .str)):=by
 induction h with
 | nil=>exact gT
 | cons h ih=>exact gM rK ih rfl
theorem Dj {es:List Expr}{p:Pos}{t:gF Expr}{line:Nat}{env:Env}:swapsWith (.List es p) t line env=pure Rn:=rfl
end L2
namespace K01
open PySem PySem.Spec PyProof.Rows L2 Zp
section
variable {P:Program}{w:World}{K:gG}{mg:gD}{base:Heap}
theorem A5 {σ:L2.St}{H:Hp}{a C:Addr}(h0:σ[0]?=My (My (.ref a)))(h1:H a=My (.ext (isC a (.ref C))))(bs:List Bool)(hl:bs.length<=100){Q:VK}(q:∀ v H',gY H H'->Is K H' v (.lst (bs.map .bl))->Q v H'):ph (tIs C bs) σ H Q :=
 Gm h0 h1 bs _ ⟨by rw[ah,sizeLine_eq];lia,λ p hp=>q _ _ (gY.upd hp) (.lst gW (AJ bs))⟩
theorem GZ {σ:L2.St}{H:Hp}{a C:Addr}{v:V}{bs:List Bool}(h0:σ[0]?=My (My (.ref a)))(h1:H a=My (.ext (isC a (.ref C))))(hv:σ[1]?=My (My v))(iv:Is K H v (.lst (bs.map .bl)))(cs:List Bool)(hl:bs.length+cs.length<=100){Q:VK}(q:∀ v H',gY H H'->Is K H' v (.lst ((bs++cs).map .bl))->Q v H'):tOp (rD K qu) (hX 1) (ph (tIs C cs)) σ H Q :=
 ⟨_,hv,A5 (K:=K) h0 h1 cs (by lia) λ v2 H2 s2 i2=>⟨_,_,_,iv.ext s2,i2,ai (by rw[ah,ah];lia),λ v3 H3 s3 i3=>q _ _ (s2.trans s3) (by rw[bD];exact i3)⟩⟩
theorem Qn {u:TS}{D:Ends}{σ:L2.St}{H:Hp}{a C:Addr}(h0:σ[0]?=My (My (.ref a)))(h1:H a=My (.ext (isC a (.ref C))))(bs:List Bool)(hl:bs.length<=100)(q:∀ v H',gY H H'->Is K H' v (.lst (bs.map .bl))->u D (σ.set 1 (My v)) H'):jh (kH (ph (tIs C bs)) (iM 1)) u D σ H :=
 A5 (K:=K) h0 h1 bs hl q
theorem Mu {u:TS}{D:Ends}{σ:L2.St}{H:Hp}{a C:Addr}{v:V}{bs:List Bool}(h0:σ[0]?=My (My (.ref a)))(h1:H a=My (.ext (isC a (.ref C))))(hv:σ[1]?=My (My v))(iv:Is K H v (.lst (bs.map .bl)))(cs:List Bool)(hl:bs.length+cs.length<=100)(q:∀ v H',gY H H'->Is K H' v (.lst ((bs++cs).map .bl))->u D (σ.set 1 (My v)) H'):jh (kH (tOp (rD K qu) (hX 1) (ph (tIs C cs))) (iM 1)) u D σ H :=
 GZ (K:=K) h0 h1 hv iv cs hl q
def Jh (K:gG)(mg:gD)(er:xn K mg):Sp:=λ vs H Q _=>∃ a c,vs=[.ref a]/\c∈vY/\H a=My (.ext (isC a (.ref (er.C c))))/\∀ H',gY H H'->Q (.str (AL c)) H'
theorem Ek:∃ es p1 p5 p2,iL l9=(iL l9).take 5++(.Assign [.Name "_law_words" p1] (.List es p5) p2::(iL l9).drop 6)/\tW es ["web","place","tree","tie","text","number","shares","two","stream","paper","apart","many"]:=⟨_,_,_,_,rfl,(.cons (.cons (.cons (.cons (.cons (.cons (.cons (.cons (.cons (.cons (.cons (.cons .nil))))))))))))⟩
theorem Ji (T:Txt K mg):Gh P w K mg base 1 T.nE.f T.nE.fd ["_law_e"] (Jh K mg T.er):=by
 refine T.nE.F.okN kC (λ vs H Q E h=>?_) (λ cdv A outer s H vs Q E hr h=>?_)
 ·obtain⟨a,c,rfl,_⟩:=h;rfl
 ·obtain⟨a,c,rfl,hc,ha,q⟩:=h
  have hu:=hr.units;obtain⟨i,hi,ei⟩:=Gw hc;obtain⟨eC,eW⟩:=Gx T.er i hi ei;rw[eC]at ha;have cx:=(T.er.ci i hi).ext;obtain⟨es,p1,p5,p2,eb,hes⟩:=Ek;rw[eb];refine⟨_,g0 (iX (i:=1) kC.nd rfl (Or.inl rfl) (jP (gP (kW T.hG cx (T.er.ck 0 T.er.sx rfl (by decide) hi) (pv 0)) (gP (kW T.hG cx (T.er.ck 1 T.er.nV rfl (by decide) hi) (pv 0)) (gP (kW T.hG cx (T.er.ck 2 T.er.sy rfl (by decide) hi) (pv 0)) (gP (kW T.hG cx (T.er.ck 3 T.er.uT rfl (by decide) hi) (pv 0)) g_))))))
   (g0 (iX (i:=1) kC.nd rfl (Or.inl rfl) (jv o8 (pv 1) (jP (gP (kW T.hG cx (T.er.ck 4 T.er.sA rfl (by decide) hi) (pv 0)) (gP (kW T.hG cx (T.er.ck 5 T.er.oJ rfl (by decide) hi) (pv 0)) (gP (kW T.hG cx (T.er.ck 6 T.er.oK rfl (by decide) hi) (pv 0)) (gP (kW T.hG cx (T.er.ck 7 T.er.uU rfl (by decide) hi) (pv 0)) g_)))))))
   (g0 (iX (i:=1) kC.nd rfl (Or.inl rfl) (jv o8 (pv 1) (jP (gP (kW T.hG cx (T.er.ck 8 T.er.oM rfl (by decide) hi) (pv 0)) (gP (kW T.hG cx (T.er.ck 9 T.er.ql rfl (by decide) hi) (pv 0)) (gP (kW T.hG cx (T.er.ck 10 T.er.uV rfl (by decide) hi) (pv 0)) (gP (kW T.hG cx (T.er.ck 11 T.er.qm rfl (by decide) hi) (pv 0)) g_)))))))
   (g0 (iX (i:=1) kC.nd rfl (Or.inl rfl) (jv o8 (pv 1) (jP (gP (kW T.hG cx (T.er.ck 12 T.er.sC rfl (by decide) hi) (pv 0)) (gP (kW T.hG cx (T.er.ck 13 T.er.sD rfl (by decide) hi) (pv 0)) (gP (kW T.hG cx (T.er.ck 14 T.er.sE rfl (by decide) hi) (pv 0)) g_))))))
   (g0 (qy (PW.pt (Cp (jn (xh hu) (L7 (dv 1) m_) ie) (yq (Bf (Ez (Ma T.hG T.zy cx (T.er.ci i hi).ve (pv 0))))))) (iW (kG rK)) lQ)
   (iS (j8 (i:=2) kC.nd (mv hes.pd) (hs:=Dj)) (iH (jb (mW (jR o8 (dv 2) (mv (gM rK (gM rK (gM rK gT))))) (L_ (dv 1) m_))))))))),?_⟩
  refine Qn (K:=K) (σ:=[My (.ref a),Rl,Rl]) (C:=T.er.ad i) (a:=a) rfl ha [decide (i=0),decide (i=1),decide (i=2),decide (i=3)] (by simp) λ v1 H1 s1 i1=>?_;refine Mu (K:=K) (σ:=[My (.ref a),My v1,Rl]) (C:=T.er.ad i) (a:=a) rfl (s1 _ _ ha) rfl i1 [decide (i=4),decide (i=5),decide (i=6),decide (i=7)] (by simp) λ v2 H2 s2 i2=>?_;refine Mu (K:=K) (σ:=[My (.ref a),My v2,Rl]) (C:=T.er.ad i) (a:=a) rfl ((s1.trans s2) _ _ ha) rfl i2 [decide (i=8),decide (i=9),decide (i=10),decide (i=11)] (by simp) λ v3 H3 s3 i3=>?_;refine Mu (K:=K) (σ:=[My (.ref a),My v3,Rl]) (C:=T.er.ad i) (a:=a) rfl (((s1.trans s2).trans s3) _ _ ha) rfl i3 [decide (i=12),decide (i=13),decide (i=14)] (by simp) λ v4 H4 s4 i4=>?_;have ss:=((s1.trans s2).trans s3).trans s4;obtain⟨b1,b2⟩:=Gy i hi;have i4:Is K H4 v4 (.lst (((Ro 15).map λ k=>decide (i=k)).map .bl)):=i4;have bl:((Ro 15).map λ k=>decide (i=k)).length=15:=by rw[ah,b_]
  generalize (Ro 15).map (λ k=>decide (i=k))=bs at *;have S:∀ H',gY H4 H'->Sat K H' [My (.ref a),My v4,Rl] [Rl,My (.lst (bs.map .bl)),Rl]:=λ H' s=>Ce (Mm (i4.ext s) (Ce N4));have c1:Ko (.lst (bs.map .bl)) (.bl Rm)=My (.int 1):=by show(xi (bs.map .bl)).bind (λ bs=>My (Dt.int (bs.countP id:Nat)))=_;rw[vL,aB,b1];rfl
  have c2:Kq (.lst (bs.map .bl)) (.bl Rm)=My (.int i):=by show(xi (bs.map .bl)).bind (λ bs=>if bs.length<=1000 then (bs.findIdx? id).map λ(j:Nat)=>Dt.int j else Rl)=_;rw[vL,aB,ai (by lia),b2];rfl
  have c3:dIx (.lst (D9.map .str)) (.int i)=My (.str (AL c)):=by show atI (D9.map Dt.str) (i:Int)=_;refine lR ?_;rw[aJ,eW];rfl
  generalize Dt.lst (bs.map .bl)=bb at *;refine⟨_,Rn,S H4 (gY.refl H4),by simp[c1],λ H5 s5=>?_⟩;refine Bx ?_;refine⟨⟨a,rfl,(ss.trans s5) _ _ ha⟩,Rm,rfl,Bx ?_⟩;refine⟨_,.rt (.str (AL c)),S H5 s5,?_,λ H6 s6=>?_⟩
  ·have c4:qu (.lst ((["web","place","tree","tie","text","number","shares","two","stream","paper","apart","many"]:List Str).map Dt.str)) (.lst [.str "code",.str "deed",.str "line"])=My (.lst (D9.map .str)):=rfl
   generalize hw:(["web","place","tree","tie","text","number","shares","two","stream","paper","apart","many"]:List Str).map Dt.str=ws,Dt.lst (D9.map .str)=ew at *;have wl:ws.length<=1000:=by rw[<-hw];decide
   simp[wl,c2,c3,c4]
  ·intro v iv;rw[iv.str_inv];exact q H6 ((ss.trans s5).trans s6)
end
end K01
namespace L2
open PySem PySem.Spec PyProof.Rows Zp Qs
def hdP (H:Hp)(p:Addr):Hp:=λ b=>if b=p then Rl else H b
theorem nX (H:Hp)(p:Addr):gY (hdP H p) H:=λ b o e=>by
 unfold hdP at e;by_cases c:b=p
 ·rw[ai c]at e;cases e
 ·rw[aq c]at e;exact e
theorem oY {H:Hp}{p b:Addr}(h:b≠p):hdP H p b=H b:=aq h
theorem uX {p:Addr}{H H':Hp}(h:∀ b o,H b=My o->b≠p->H' b=My o):gY (hdP H p) (hdP H' p):=λ b o e=>by
 unfold hdP at e ⊢;by_cases c:b=p
 ·rw[ai c]at e;cases e
 ·rw[aq c]at e ⊢;exact h b o e c
def Mv:List Dt->Bool
 | [.int _]=>Rm
 | [.opq _]=>Rm
 | _=>Rn
mutual
def jx:Dt->Bool
 | .lst ds=>!Mv ds&&iY ds
 | .tup ds=>iY ds
 | _=>Rm
def iY:List Dt->Bool
 | []=>Rm
 | d::r=>jx d&&iY r
end
section
variable {K:gG}{H:Hp}{p:Addr}{n:Int}(hp:H p=My (.lst [.int n]))
include hp
mutual
theorem Ci:∀ (d:Dt) {v:V},jx d=Rm->Is K H v d->Is K (hdP H p) v d
 | .non,v,_,i=>by rw[i.ow];exact .non
 | .bl b,v,_,i=>by rw[i.jk];exact .bl b
 | .int b,v,_,i=>by rw[i.int_inv];exact .int b
 | .str b,v,_,i=>by rw[i.str_inv];exact .str b
 | .ty b,v,_,i=>by rw[i.BO];exact .ty b
 | .opq b,v,_,i=>by rw[i.qf];exact .opq b
 | .dct kvs,v,_,i=>by
  obtain⟨a,rfl,ha⟩:=i.ou;have ne:a≠p:=λ z=>by subst z;rcases ha with h | ⟨o,h⟩<;>(rw[hp]at h;cases h)
  refine .dct ?_;rcases ha with h | ⟨o,h⟩
  ·exact .inl (by rw[oY ne];exact h)
  ·exact .inr ⟨o,by rw[oY ne];exact h⟩
 | .tup ds,v,h,i=>by
  obtain⟨a,xs,rfl,ha,js⟩:=i.ip;refine .tup ?_ (zz ds (by rw[jx]at h;exact h) js);rcases ha with (h | ⟨o,h⟩) | h
  ·have ne:a≠p:=λ z=>by subst z;rw[hp]at h;cases h
   exact .inl (.inl (by rw[oY ne];exact h))
  ·have ne:a≠p:=λ z=>by subst z;rw[hp]at h;cases h
   exact .inl (.inr ⟨o,by rw[oY ne];exact h⟩)
  ·exact .inr h
 | .lst ds,v,h,i=>by
  obtain⟨a,xs,rfl,ha,js⟩:=i.lst_inv;rw[jx,aU]at h;have ne:a≠p:=λ z=>by
   subst z;rw[hp]at ha;cases ha;cases js with
   | cons j1 j2 =>
    cases j2;cases j1 with
    | int=>cases h.1
    | opq=>cases h.1
  exact .lst (by rw[oY ne];exact ha) (zz ds h.2 js)
theorem zz:∀ (ds:List Dt) {vs:List V},iY ds=Rm->Iss K H vs ds->Iss K (hdP H p) vs ds
 | [],vs,_,i=>by cases i;exact .nil
 | d::r,vs,h,i=>by
  cases i with
  | cons i1 i2 =>rw[iY,aU]at h;exact .cons (Ci d h.1 i1) (zz r h.2 i2)
end
end
def oiD:Dt->gF (gF Int)
 | .non=>My Rl
 | .int i=>My (My i)
 | _=>Rl
def ku:gF Int->Dt
 | none=>.non
 | some i=>.int i
theorem Dk {d:Dt}{o:gF Int}(h:oiD d=My o):d=ku o:=by
 cases d with
 | non=>cases h;rfl
 | int i=>cases h;rfl
 | _=>cases h
def El (x y:Dt):gF Dt:=(oiD x).bind λ o=>match y with
 | .non=>My (.bl o.isNone)
 | _=>Rl
def Jj (x y:Dt):gF Dt:=(oiD x).bind λ o=>match y with
 | .int j=>My (.bl (decide (o=My j)))
 | _=>Rl
section
variable {X:Cx}
theorem Od:OpR X (compareOp .Is) (rD X.K El):=opD K4 λ x y H Q dx dy d i1 i2 e q=>by
 obtain⟨o,e1,e2⟩:=gQ e;obtain rfl:=Dk e1;cases dy with
 | non =>
  cases e2;have:=i2.ow;subst this;refine⟨rfl,?_⟩;cases o with
  | none=>rw[Is.ow i1];exact q _ H (gY.refl H) (.bl _)
  | some i=>rw[Is.int_inv i1];exact q _ H (gY.refl H) (.bl _)
 | _=>cases e2
theorem Oe:OpR X (compareOp .Eq) (rD X.K Jj):=opD JU λ x y H Q dx dy d i1 i2 e q=>by
 obtain⟨o,e1,e2⟩:=gQ e;obtain rfl:=Dk e1;cases dy with
 | int j =>
  cases e2;have:=i2.int_inv;subst this;cases o with
  | none =>
   rw[Is.ow i1];refine⟨rfl,?_⟩;have e:decide (V.non=V.int j)=decide ((Rl:gF Int)=My j):=by rw[bC];simp
   rw[e];exact q _ H (gY.refl H) (.bl _)
  | some i =>
   rw[Is.int_inv i1];refine⟨rfl,?_⟩;have e:decide (V.int i=V.int j)=decide (My i=My j):=by rw[bC];simp
   rw[e];exact q _ H (gY.refl H) (.bl _)
 | _=>cases e2
end
def zA (w:Web)(f L P i:Nat):Prop:=ds w.2 f i<=L\/(ds w.2 f i=L+1/\∃ u,u<P/\ds w.2 f u=L/\i∈nb w.2 u)
open Classical in
def jj (w:Web)(f L P i:Nat):gF Int:=if zA w f L P i then My (ds w.2 f i:Int) else Rl
section
variable {w:Web}(g:Good w){f:Nat}
open Classical in
theorem md {L P i:Nat}(h:zA w f L P i):jj w f L P i=My (ds w.2 f i:Int):=by unfold jj;rw[ai h]
open Classical in
theorem qa {L P i:Nat}(h:¬ zA w f L P i):jj w f L P i=Rl:=by unfold jj;rw[aq h]
open Classical in
theorem rb {L P L' P' i:Nat}(h:zA w f L P i↔zA w f L' P' i):jj w f L P i=jj w f L' P' i:=by
 by_cases c:zA w f L P i
 ·rw[md c,md (h.mp c)]
 ·rw[qa c,qa λ z=>c (h.mpr z)]
open Classical in
theorem Dl {L P p:Nat}:jj w f L P p=My (L:Int)↔ds w.2 f p=L:=by
 by_cases c:zA w f L P p
 ·rw[md c]
  constructor
  ·intro h;have:=ak h;lia
  ·intro h;rw[h]
 ·rw[qa c]
  constructor
  ·intro h;cases h
  ·intro h;exact absurd (.inl (by lia)) c
theorem G0 {L P i:Nat}(h:ds w.2 f P≠L):jj w f L (P+1) i=jj w f L P i:=rb ⟨λ z=>by
  rcases z with z | ⟨z,u,hu,hd,hi⟩
  ·exact .inl z
  ·refine .inr ⟨z,u,?_,hd,hi⟩
   have:u≠P:=λ e=>by subst e;exact h hd
   lia,λ z=>by
  rcases z with z | ⟨z,u,hu,hd,hi⟩
  ·exact .inl z
  ·exact .inr ⟨z,u,by lia,hd,hi⟩⟩
include g
open Classical in
theorem Good.G1 (hf:f<w.1){L P i:Nat}(h:ds w.2 f P=L):jj w f L (P+1) i=if i∈nb w.2 P then (if jj w f L P i=Rl then My ((L:Int)+1) else jj w f L P i) else jj w f L P i:=by
 by_cases c:i∈nb w.2 P
 ·rw[ai c]
  have le:=g.Kl hf c;by_cases q:zA w f L P i
  ·have q':zA w f L (P+1) i:=by
    rcases q with z | ⟨z,u,hu,hd,hi⟩
    ·exact .inl z
    ·exact .inr ⟨z,u,by lia,hd,hi⟩
   rw[md q,md q',aq (by simp)]
  ·have gt:ds w.2 f i=L+1:=by
    have:¬ ds w.2 f i<=L:=λ z=>q (.inl z);lia
   rw[qa q,ai rfl,md (.inr ⟨gt,P,by lia,h,c⟩),gt];rfl
 ·rw[aq c]
  refine rb ⟨λ z=>?_,λ z=>?_⟩
  ·rcases z with z | ⟨z,u,hu,hd,hi⟩
   ·exact .inl z
   ·refine .inr ⟨z,u,?_,hd,hi⟩
    have:u≠P:=λ e=>by subst e;exact c hi
    lia
  ·rcases z with z | ⟨z,u,hu,hd,hi⟩
   ·exact .inl z
   ·exact .inr ⟨z,u,by lia,hd,hi⟩
theorem Good.Jk (hf:f<w.1){L i:Nat}(hi:i<w.1):jj w f L w.1 i=jj w f (L+1) 0 i:=by
 refine rb ⟨λ z=>?_,λ z=>?_⟩
 ·rcases z with z | ⟨z,_⟩
  ·exact .inl (by lia)
  ·exact .inl (by lia)
 ·rcases z with z | ⟨_,u,hu,_⟩
  ·by_cases c:ds w.2 f i<=L
   ·exact .inl c
   ·have e:ds w.2 f i=L+1:=by lia
    have ne:i≠f:=λ q=>by subst q;rw[sf]at e;lia
    obtain⟨u,hu,hd⟩:=g.B0 hf hi ne;exact .inr ⟨e,u,(g.nz hu).2.1,by lia,hu⟩
  ·lia
theorem Good.Em (hf:f<w.1){i:Nat}(hi:i<w.1):jj w f 0 0 i=if i=f then My 0 else Rl:=by
 by_cases c:i=f
 ·subst c;rw[ai rfl,md (.inl (by rw[sf];exact ar _)),sf];rfl
 ·rw[aq c]
  refine qa λ z=>?_;rcases z with z | ⟨_,u,hu,_⟩
  ·exact c (g.C9 hf hi (by lia))
  ·lia
theorem Good.Jl (hf:f<w.1){i:Nat}(hi:i<w.1)(hd:ds w.2 f i<=w.1):jj w f w.1 0 i=My (ds w.2 f i:Int):=md (.inl hd)
end
def oV:gF Int->V
 | none=>.non
 | some i=>.int i
abbrev foV (n:Nat)(F:Nat->gF Int):List V:=(Ro n).map λ j=>oV (F j)
theorem Jm (n:Nat)(F:Nat->gF Int)(j:Nat)(x:gF Int):(foV n F).set j (oV x)=foV n (λ i=>if i=j then x else F i):=by
 apply fR;intro i;rw[List.getElem?_set];simp only[foV,aJ,ah,b_];by_cases c:j=i
 ·subst c
  by_cases l:j<n
  ·rw[ai rfl,ai l,cP l];simp
  ·rw[ai rfl,aq l,bV (by simp;lia)];rfl
 ·rw[aq c]
  by_cases l:i<n
  ·rw[cP l];simp[bj c]
  ·rw[bV (by simp;lia)];rfl
def fT:DE->gF Bool:=gB (hU Jj (hU dIx (gS 2) (gS 4)) (gS 3))
def fN:DE->gF Dt:=iq 2 kh (gN (gS 0) (gN (gS 4) gR))
def fV:DE->gF Dt:=gIf (gB (hU El (hU dIx (gS 2) (gS 5)) (gC .non))) (hU (dI (·+·)) (gS 3) (gC (.int 1))) (hU dIx (gS 2) (gS 5))
def fB (K:gG):TS:=kH (tD K fV) (KY (hX 2) (hX 5) EM)
def fI (K:gG):TS:=w6 (Cr K (tD K fN)) (iM 5) (fB K)
def fP (K:gG):TS:=Bg (tDT K fT) (fI K) xB
structure FH (K:gG)(w:Web)(v0:V)(H0:Hp)(l:Addr)(F:Nat->gF Int)(H:Hp):Prop where
 same:gY H0 H
 nl:H0 l=Rl
 hl:H l=My (.lst (foV w.1 F))
 i0:Is K H0 v0 (iP w)
abbrev sgF (v0:V)(f:Nat)(l:Addr)(lap pl ot:gF V):L2.St:=[My v0,My (cV f),My (.ref l),lap,pl,ot]
section
variable {K:gG}{w:Web}{v0:V}{H0 H:Hp}{l:Addr}{F:Nat->gF Int}{f:Nat}{D:Ends}
theorem FH.ext {H':Hp}(x:FH K w v0 H0 l F H)(s:gY H H'):FH K w v0 H0 l F H':=⟨x.same.trans s,x.nl,s _ _ x.hl,x.i0⟩
theorem FH.put (x:FH K w v0 H0 l F H)(j:Nat)(z:gF Int):FH K w v0 H0 l (λ i=>if i=j then z else F i) (upd H l (.lst ((foV w.1 F).set j (oV z)))) :=
 ⟨λ c u h=>by rw[g9 (ik h x.nl)];exact x.same c u h,x.nl,by rw[gW,Jm],x.i0⟩
theorem Oh {K:gG}{H:Hp}(o:gF Int):Is K H (oV o) (ku o):=by
 cases o with
 | none=>exact .non
 | some i=>exact .int i
theorem Ol {K:gG}{H:Hp}{v:V}{o:gF Int}(h:Is K H v (ku o)):v=oV o:=by
 cases o with
 | none=>exact Is.ow h
 | some i=>exact Is.int_inv h
theorem FH.isL (x:FH K w v0 H0 l F H):Is K H (.ref l) (.lst ((Ro w.1).map λ j=>ku (F j))):=by
 refine .lst x.hl ?_;show Iss K H ((Ro w.1).map λ j=>oV (F j)) _;generalize Ro w.1=r;induction r with
 | nil=>exact .nil
 | cons a t ih=>exact .cons (Oh _) ih
theorem FH.sat (x:FH K w v0 H0 l F H)(L p:Nat)(ot:gF V):Sat K H (sgF v0 f l (My (cV L)) (My (cV p)) ot) [My (iP w),My (gO f),My (.lst ((Ro w.1).map λ j=>ku (F j))),My (gO L),My (gO p),Rl] :=
 stS (x.i0.ext x.same) (stS (.int _) (stS x.isL (stS (.int _) (stS (.int _) (stN stE)))))
theorem FH.Qo (x:FH K w v0 H0 l F H)(L p o:Nat):Sat K H (sgF v0 f l (My (cV L)) (My (cV p)) (My (cV o))) [My (iP w),My (gO f),My (.lst ((Ro w.1).map λ j=>ku (F j))),My (gO L),My (gO p),My (gO o)] :=
 stS (x.i0.ext x.same) (stS (.int _) (stS x.isL (stS (.int _) (stS (.int _) (stS (.int _) stE)))))
theorem G2 (o:gF Int):oiD (ku o)=My o:=by cases o<;>rfl
theorem KA {n i:Nat}(h:i<n):dIx (.lst ((Ro n).map λ j=>ku (F j))) (gO i)=My (ku (F i)):=by show atI ((Ro n).map λ j=>ku (F j)) (i:Int)=_;refine lR ?_;rw[aJ,cP h];rfl
theorem Om {L p:Nat}(hp:p<w.1)(x0 x1 x5:gF Dt):fT [x0,x1,My (.lst ((Ro w.1).map λ j=>ku (F j))),My (gO L),My (gO p),x5]=My (decide (F p=My (L:Int))):=by
 have i1:=KA (F:=F) hp;have q:Jj (ku (F p)) (gO L)=My (.bl (decide (F p=My (L:Int)))):=by unfold Jj;rw[G2];rfl
 generalize gO L=nL,gO p=np,ku (F p)=e,(Ro w.1).map (λ j=>ku (F j))=ll at *;simp[fT,i1,q]
theorem Oo {L o:Nat}(ho:o<w.1)(x0 x1 x4:gF Dt):fV [x0,x1,My (.lst ((Ro w.1).map λ j=>ku (F j))),My (gO L),x4,My (gO o)]=My (ku (if F o=Rl then My ((L:Int)+1) else F o)):=by
 have i1:=KA (F:=F) ho;have q:El (ku (F o)) .non=My (.bl (F o).isNone):=by unfold El;rw[G2];rfl
 generalize (Ro w.1).map (λ j=>ku (F j))=ll at *;cases h:F o with
 | none =>rw[h]at i1 q;have q:El (ku Rl) .non=My (.bl Rm):=q;generalize ku Rl=e at *;simp only[gO]at *;simp[fV,i1,q,gO,ku]
 | some v =>rw[h]at i1 q;have q:El (ku (My v)) .non=My (.bl Rn):=q;rw[aq (by simp)];generalize gO o=no,ku (My v)=e at *;simp[fV,i1,q]
theorem Mw {L p o:Nat}(x:FH K w v0 H0 l F H)(ho:o<w.1)(h:∀ H',FH K w v0 H0 l (λ i=>if i=o then (if F o=Rl then My ((L:Int)+1) else F o) else F i) H'->(∀ c u,H c=My u->c≠l->H' c=My u)->D.nx (sgF v0 f l (My (cV L)) (My (cV p)) (My (cV o))) H'):fB K D (sgF v0 f l (My (cV L)) (My (cV p)) (My (cV o))) H:=by refine⟨_,_,x.Qo L p o,Oo ho ..,λ v H1 s1 i1=>?_⟩;rw[Ol i1];have x1:=x.ext s1;exact⟨_,rfl,_,rfl,l,_,_,o,rfl,rfl,x1.hl,by rw[ah,b_];exact C_ ho,h _ (x1.put o _) λ c u e n=>by rw[g9 n];exact s1 c u e⟩
theorem Oq (g:Good w){p:Nat}(x1 x2 x3 x5:gF Dt):fN [My (iP w),x1,x2,x3,My (gO p),x5]=My (.lst ((nrL w p).map gO)):=by
 have nr:kh [iP w,gO p]=My (.lst ((nrL w p).map gO)):=by show(dW (iP w)).bind (λ w=>(lY (gO p)).map λ p=>Dt.lst (((Ro w.1).filter λ o=>decide (uF p o∈w.2)).map gO))=_;rw[qS g,jW];rfl
 generalize gO p=np,iP w=ww,(nrL w p).map gO=ps at *;simp[fN,nr]
theorem Good.Mx (g:Good w){L p:Nat}(hf:f<w.1)(hp:p<w.1)(hd:ds w.2 f p=L){ot:gF V}(x:FH K w v0 H0 l (jj w f L p) H)
  (h:∀ ot H',FH K w v0 H0 l (jj w f L (p+1)) H'->D.nx (sgF v0 f l (My (cV L)) (My (cV p)) ot) H'):fI K D (sgF v0 f l (My (cV L)) (My (cV p)) ot) H:=by
 refine⟨_,_,x.sat L p ot,Oq g ..,λ v H1 s1 i1=>?_⟩;have x1:=x.ext s1;obtain⟨a,xs,rfl,ha,is⟩:=i1.lst_inv;have exs:xs=(nrL w p).map cV:=by
  have:Iss K H1 xs (((nrL w p).map λ(k:Nat)=>(k:Int)).map .int):=by rw[bq];exact is
  rw[this.ints,bq];rfl
 subst exs;have d7:=g.Ga p;have al:a≠l:=λ z=>by
  subst z;rw[x1.hl]at ha;have:=cK (λ o=>match o with | some (HO.lst ys)=>ys.length | _=>0) ha;simp at this;rw[g.L6 p]at this;have hlt:dg w p<w.1:=by
   have h1:(p::nb w.2 p).Nodup:=bu.mpr ⟨λ m=>(g.nz m).2.2 rfl,g.C7 p⟩;have:=aK h1 (l₂:=Ro w.1) λ x hx=>by
    rcases ax.mp hx with rfl | hx
    ·exact aD.mpr hp
    ·exact aD.mpr (g.nz hx).1
   simp at this;unfold dg;lia
  lia
 refine⟨a,rfl,⟨_,SqL.of ha⟩,zO (K:=K) (a:=a) (xs:=(nrL w p).map cV) (λ j σ' H'=>∃ ot,σ'=sgF v0 f l (My (cV L)) (My (cV p)) ot/\H' a=My (.lst ((nrL w p).map cV))/\FH K w v0 H0 l (λ i=>if i∈(nrL w p).take j then (if jj w f L p i=Rl then My ((L:Int)+1) else jj w f L p i) else jj w f L p i) H') ⟨ot,rfl,ha,?_⟩ (λ j σ' H' _ z=>by obtain⟨_,_,q,_⟩:=z;exact SqL.of q) ?_ ?_⟩
 ·have e:(λ i=>if i∈(nrL w p).take 0 then (if jj w f L p i=Rl then My ((L:Int)+1) else jj w f L p i) else jj w f L p i)=jj w f L p:=by funext i;simp
  rw[e];exact x1
 ·rintro j xv σ' H' hj ⟨ot,rfl,ha',x'⟩
  rw[aJ]at hj;cases hnr:(nrL w p)[j]? with
  | none=>rw[hnr]at hj;cases hj
  | some o =>
   rw[hnr]at hj;cases hj;have hom:=aY hnr;have how:o<w.1:=(g.nz (g.tP.mp hom)).1;have hnew:o∉(nrL w p).take j:=λ m=>by obtain⟨k,hk,ek⟩:=bW m;rw[List.getElem_take]at ek;rw[bf]at hk;have pw:(nrL w p).Pairwise (·<·):=dY _ dO;obtain⟨hj2,ej⟩:=aL.mp hnr;have:=bM.mp pw k j (by lia) hj2 (by lia);lia
   refine Mw x' how λ H2 x2 kp=>⟨_,rfl,kp a _ ha' al,?_⟩;have e:(λ i=>if i∈(nrL w p).take (j+1) then (if jj w f L p i=Rl then My ((L:Int)+1) else jj w f L p i) else jj w f L p i)=λ i=>if i=o then (if (if o∈(nrL w p).take j then (if jj w f L p o=Rl then My ((L:Int)+1) else jj w f L p o) else jj w f L p o)=Rl then My ((L:Int)+1) else (if o∈(nrL w p).take j then (if jj w f L p o=Rl then My ((L:Int)+1) else jj w f L p o) else jj w f L p o)) else (if i∈(nrL w p).take j then (if jj w f L p i=Rl then My ((L:Int)+1) else jj w f L p i) else jj w f L p i):=by
    funext i;rw[eX,hnr,aq hnew];by_cases c:i=o
    ·subst c;simp
    ·by_cases c2:i∈(nrL w p).take j
     ·simp[c,c2]
     ·simp[c,c2]
   rw[e];exact x2
 ·rintro σ' H' ⟨ot,rfl,_,x'⟩
  rw[ah,d9]at x';have e:(λ i=>if i∈nrL w p then (if jj w f L p i=Rl then My ((L:Int)+1) else jj w f L p i) else jj w f L p i)=jj w f L (p+1):=by
   funext i;rw[g.G1 hf hd];by_cases c:i∈nb w.2 p
   ·rw[ai c,ai (g.tP.mpr c)]
   ·rw[aq c,aq λ z=>c (g.tP.mp z)]
  rw[e]at x';exact h _ _ x'
end
def fW (K:gG):TE:=tOp (HH K) (hX 0) (tC (V.int 0))
def fL2 (K:gG):TS:=w6 (u_ (gX (fW K) iA)) (iM 4) (fP K)
def fL1 (K:gG):TS:=w6 (u_ (gX (fW K) iA)) (iM 3) (fL2 K)
def Ot (K:gG):TS:=jh (kH (tOp Nh (ph (gX (tC V.non) iA)) (fW K)) (iM 2)) (jh (kH (tC (V.int 0)) (KY (hX 2) (hX 1) EM)) (jh (fL1 K) (wZ (hX 2))))
section
variable {K:gG}{w:Web}{v0:V}{H0 H:Hp}{l:Addr}{F:Nat->gF Int}{f:Nat}{D:Ends}
theorem Mz {σ:L2.St}{Q:VK}(h0:σ[0]?=My (My v0))(i0:Is K H v0 (iP w))(q:Q (.int w.1) H):fW K σ H Q:=by obtain⟨r,xs,rfl,hr3,is3⟩:=i0.ip;obtain⟨u0,u1,rfl,j0,j1⟩:=is3.two;have:=j0.int_inv;subst this;exact⟨_,h0,r,_,_,_,rfl,rfl,hr3,rfl,q⟩
theorem FH.congr {G:Nat->gF Int}(x:FH K w v0 H0 l F H)(h:∀ i,i<w.1->F i=G i):FH K w v0 H0 l G H:=⟨x.same,x.nl,by
 rw[x.hl];have:foV w.1 F=foV w.1 G:=cm λ i hi=>by rw[h i (aD.mp hi)]
 rw[this],x.i0⟩
variable (g:Good w)
include g
theorem Good.Qp {L p:Nat}(hf:f<w.1)(hp:p<w.1){ot:gF V}(x:FH K w v0 H0 l (jj w f L p) H)
  (h:∀ ot H',FH K w v0 H0 l (jj w f L (p+1)) H'->D.nx (sgF v0 f l (My (cV L)) (My (cV p)) ot) H'):fP K D (sgF v0 f l (My (cV L)) (My (cV p)) ot) H:=by
 refine⟨_,_,x.sat L p ot,Om hp ..,λ H1 s1=>?_⟩;have x1:=x.ext s1;by_cases c:jj w f L p p=My (L:Int)
 ·rw[decide_eq_true c];exact By (g.Mx hf hp (Dl.mp c) x1 h)
 ·rw[decide_eq_false c];refine Bx ?_;have ne:ds w.2 f p≠L:=λ z=>c (Dl.mpr z);exact h ot H1 (x1.congr λ i _=>(G0 ne).symm)
theorem Good.G3 {L:Nat}(hf:f<w.1){pl ot:gF V}(x:FH K w v0 H0 l (jj w f L 0) H)
  (h:∀ pl ot H',FH K w v0 H0 l (jj w f L w.1) H'->D.nx (sgF v0 f l (My (cV L)) pl ot) H'):fL2 K D (sgF v0 f l (My (cV L)) pl ot) H:=by
 have h8:=g.nQ;refine Mz rfl (x.i0.ext x.same) ⟨_,rfl,by lia,by lia,?_⟩;rw[bS];refine mK (lo:=0) (n:=w.1) (λ i σ' H'=>∃ pl ot,σ'=sgF v0 f l (My (cV L)) pl ot/\FH K w v0 H0 l (jj w f L i) H') ⟨pl,ot,rfl,x⟩ ?_ ?_
 ·rintro i σ' H' hi ⟨pl,ot,rfl,x'⟩;rw[Int.zero_add];exact g.Qp hf hi x' λ ot H2 x2=>⟨_,ot,rfl,x2⟩
 ·rintro σ' H' ⟨pl,ot,rfl,x'⟩;exact h pl ot H' x'
theorem Good.MA (hf:f<w.1){lap pl ot:gF V}(x:FH K w v0 H0 l (jj w f 0 0) H)
  (h:∀ lap pl ot H',FH K w v0 H0 l (jj w f w.1 0) H'->D.nx (sgF v0 f l lap pl ot) H'):fL1 K D (sgF v0 f l lap pl ot) H:=by
 have h8:=g.nQ;refine Mz rfl (x.i0.ext x.same) ⟨_,rfl,by lia,by lia,?_⟩;rw[bS];refine mK (lo:=0) (n:=w.1) (λ i σ' H'=>∃ lap pl ot,σ'=sgF v0 f l lap pl ot/\FH K w v0 H0 l (jj w f i 0) H') ⟨lap,pl,ot,rfl,x⟩ ?_ ?_
 ·rintro i σ' H' hi ⟨lap,pl,ot,rfl,x'⟩;rw[Int.zero_add];exact g.G3 hf x' λ pl ot H2 x2=>⟨_,pl,ot,rfl,x2.congr λ j hj=>g.Jk hf hj⟩
 ·rintro σ' H' ⟨lap,pl,ot,rfl,x'⟩;exact h lap pl ot H' x'
theorem Good.Ou (hf:f<w.1)(hd:∀ i,i<w.1->ds w.2 f i<=w.1)(i0:Is K H v0 (iP w)){x2 x3 x4 x5:gF V}
  (q:∀ l H',gY H H'->H l=Rl->H' l=My (.lst ((Ro w.1).map λ i=>cV (ds w.2 f i)))->D.rt (.ref l) H'):Ot K D [My v0,My (cV f),x2,x3,x4,x5] H:=by
 have h8:=g.nQ;refine⟨Nat.le_of_ble_eq_true rfl,λ m hm=>?_⟩;have s1:gY H (upd H m (.lst [V.non])):=gY.upd hm;refine Mz rfl (i0.ext s1) ?_;refine⟨m,(w.1:Int),[V.non],rfl,rfl,gW,by lia,by lia,by rw[sizeLine_eq];simp;lia,λ l hl=>?_⟩;have er:(Rp (w.1:Int).toNat [V.non]).flatten=foV w.1 (λ _=>Rl):=by
  rw[bS];show _=(Ro w.1).map λ _=>V.non;generalize w.1=n;induction n with
  | zero=>rfl
  | succ n ih=>rw[List.replicate_succ',List.flatten_append,ih,List.range_succ,bD];rfl
 rw[er];have s2:gY (upd H m (.lst [V.non])) (upd (upd H m (.lst [V.non])) l (.lst (foV w.1 (λ _=>Rl)))):=gY.upd hl;have hl0:H l=Rl:=s1.free hl;generalize upd H m (.lst [V.non])=H1 at *;have x:FH K w v0 H1 l (λ _=>Rl) (upd H1 l (.lst (foV w.1 (λ _=>Rl)))):=⟨s2,hl,gW,i0.ext s1⟩;generalize upd H1 l (.lst (foV w.1 (λ _=>Rl)))=H2 at x;refine⟨_,rfl,_,rfl,l,_,_,f,rfl,rfl,x.hl,by rw[ah,b_];exact C_ hf,?_⟩;have x1:=x.put f (My 0);have x2:=x1.congr (G:=jj w f 0 0) λ i hi=>(g.Em hf hi).symm;refine g.MA hf x2 λ lap pl ot H3 x3=>?_;refine⟨_,rfl,q l H3 (s1.trans x3.same) hl0 ?_⟩;rw[x3.hl];have:foV w.1 (jj w f w.1 0)=(Ro w.1).map λ i=>cV (ds w.2 f i):=cm λ i hi=>by have hi:=aD.mp hi;rw[g.Jl hf hi (hd i hi)];rfl
 rw[this]
end
def sdX:XD->Dt
 | .ok d=>d
 | .error c=>.str (AL c)
def rtX:XD->RX
 | .ok d=>.rt d
 | .error c=>.ex c
end L2
namespace K02
open PySem PySem.Spec PyProof.Rows L2 Zp
section
variable {P:Program}{w:World}{K:gG}{mg:gD}{base:Heap}
end
end K02
namespace L2
open PySem PySem.Spec PyProof.Rows Zp Qs
def oZ:List Dt->gF Dt:=BU λ x y=>(dW x).bind λ w=>(lY y).bind λ b=>if b<w.1 then My (.lst ((Ro w.1).map λ i=>gO (ds w.2 b i))) else Rl
section
variable {w:Web}(g:Good w)
include g
end
theorem MB {x:Dt}(h1:okW x=Rm)(h2:shW x=Rm):kQ [x]=My (.bl (ju x)):=by show(if okW x=Rm/\shW x=Rm then My (Dt.bl (ju x)) else Rl)=_;rw[ai ⟨h1,h2⟩]
def bt6:DE->gF RD:=(lq 9 (hU dIx (gS 3) (gS 4)))
def bt7:DE->gF RD:=(lq 10 (i9 (gN (hU kF (hU kF (hU dTk (gS 9) (gS 5)) (i9 (gN (gS 6) gR))) (hU dDp (gS 9) (hU (dI (·+·)) (gS 5) (gC (.int 1))))) gR)))
def bt8:DE->gF RD:=(lq 11 (lz (gN (i9 (gN (gS 2) (gN (hU kF (hU kF (hU dTk (gS 3) (gS 4)) (gS 10)) (hU dDp (gS 3) (hU (dI (·+·)) (gS 4) (gC (.int 1))))) gR))) (gN (i9 (gN (gS 2) (gN (hU kF (hU dTk (gS 3) (gS 4)) (hU dDp (gS 3) (hU (dI (·+·)) (gS 4) (gC (.int 1))))) gR))) gR))))
def bt9:DE->gF RD:=(lq 11 (hU qu (gS 11) (lz (gN (i9 (gN (gS 2) (gN (iU oE (gN (gS 3) gR)) gR))) (gN (lz (gN (gS 2) (gN (gS 3) gR))) gR)))))
def Jn:DE->gF RD:=(lq 11 (hU qu (gS 11) (lz (gN (i9 (gN (gS 2) (gN (hU kF (hU kF (hU dTk (gS 3) (gS 4)) (i9 (gN (iU oE (gN (gS 9) gR)) gR))) (hU dDp (gS 3) (hU (dI (·+·)) (gS 4) (gC (.int 1))))) gR))) (gN (i9 (gN (gS 2) (gN (hU kF (hU kF (hU dTk (gS 3) (gS 4)) (i9 (gN (gUn Gs (gS 9)) gR))) (hU dDp (gS 3) (hU (dI (·+·)) (gS 4) (gC (.int 1))))) gR))) gR)))))
def Jo:DE->gF RD:=(lq 11 (hU qu (gS 11) (lz (gN (i9 (gN (gS 2) (gN (hU kF (hU dTk (gS 3) (hU (dI (·+·)) (gS 4) (gC (.int 1)))) (hU dDp (gS 3) (gS 4))) gR))) (gN (i9 (gN (gS 2) (gN (gUn Gs (gS 3)) gR))) (gN (i9 (gN (hU (dI (·+·)) (gS 2) (gC (.int 1))) (gN (gS 3) gR))) gR))))))
def Jp:DE->gF RD:=(lq 11 (hU qu (gS 11) (lz (gN (i9 (gN (hU (dI (·-·)) (gS 2) (gC (.int 1))) (gN (gS 3) gR))) (gN (i9 (gN (gS 6) (gN (gS 3) gR))) gR)))))
def Jq:DE->gF RD:=(lq 11 (hU qu (gS 11) (lz (gN (i9 (gN (gS 2) (gN (iU oB (gN (iU vR (gN (hU kF (gS 3) (i9 (gN (i9 (gN (gS 7) (gN (gS 8) gR))) gR))) gR)) gR)) gR))) (gN (i9 (gN (gS 2) (gN (gS 3) (gN (i9 gR) gR)))) (gN (i9 (gN (gS 2) gR)) (gN (gS 3) (gN (gS 2) (gN (gS 6) (gN (i9 gR) gR))))))))))
def Jr:DE->gF RD:=(lq 11 (hU qu (gS 11) (lz (gN (i9 (gN (gS 2) (gN (hU kF (hU kF (hU dTk (gS 3) (gS 4)) (i9 (gN (hU kF (gS 9) (i9 (gN (gC (.int 0)) gR))) gR))) (hU dDp (gS 3) (hU (dI (·+·)) (gS 4) (gC (.int 1))))) gR))) (gN (i9 (gN (gS 2) (gN (hU kF (hU kF (hU dTk (gS 3) (gS 4)) (i9 (gN (hU dTk (gS 9) (gC (.int 1))) gR))) (hU dDp (gS 3) (hU (dI (·+·)) (gS 4) (gC (.int 1))))) gR))) gR)))))
theorem A6 (ds:List Dt)(k:Nat):dTk (.tup ds) (gO k)=My (.tup (ds.take k)):=by show(if 0<=(k:Int) then My (Dt.tup (ds.take (k:Int).toNat)) else Rl)=_;rw[ai (by lia),bS]
theorem A7 (ds:List Dt)(k:Nat):dDp (.tup ds) (gO k)=My (.tup (ds.drop k)):=by show(if 0<=(k:Int) then My (Dt.tup (ds.drop (k:Int).toNat)) else Rl)=_;rw[ai (by lia),bS]
theorem wN {a b:List Dt}(h:a.length+b.length<=1000):kF (.tup a) (.tup b)=My (.tup (a++b)):=by show(if a.length+b.length<=1000 then My (Dt.tup (a++b)) else Rl)=_;rw[ai h]
theorem ym (k:Nat):dI (·+·) (gO k) (.int 1)=My (gO (k+1)):=by show My (Dt.int ((k:Int)+1))=My (Dt.int ((k+1:Nat):Int));rfl
theorem yn {a b:List Dt}(h:a.length+b.length<=1000):qu (.lst a) (.lst b)=My (.lst (a++b)):=by show(if a.length+b.length<=1000 then My (Dt.lst (a++b)) else Rl)=_;rw[ai h]
abbrev itm (t:Nat×Nat):List Dt:=[gO t.1,gO t.2]
def qb (l:gK)(k:Nat)(x:List Dt):List Dt:=(l.map g6).take k++x++(l.map g6).drop (k+1)
def tY (t:Nat×Nat)(wh:Nat)(od:Dt):Dt:=.tup ((itm t).take wh++[od]++(itm t).drop (wh+1))
def L8 (n:Nat)(l:gK)(k wh:Nat)(t:Nat×Nat)(od:Dt):List Dt:=[.tup [gO n,.tup (qb l k [tY t wh od])],.tup [gO n,.tup ((l.map g6).take k++(l.map g6).drop (k+1))]]
def L9 (n:Nat)(l:gK):List Dt:=[.tup [gO n,.lst (l.map g6)],.lst [gO n,iJ l]]
def L10 (n:Nat)(l:gK)(k:Nat)(t:Nat×Nat):List Dt:=[.tup [gO n,.tup (qb l k [.lst (itm t)])],.tup [gO n,.tup (qb l k [.tup (itm t).reverse])]]
def L11 (n:Nat)(l:gK)(k:Nat):List Dt:=[.tup [gO n,.tup ((l.map g6).take (k+1)++(l.map g6).drop k)],.tup [gO n,.tup (l.map g6).reverse],.tup [gO (n+1),iJ l]]
def L12 (n:Nat)(l:gK)(od:Dt):List Dt:=[.tup [.int ((n:Int)-1),iJ l],.tup [od,iJ l]]
def L13 (n:Nat)(l:gK)(od:Dt)(o:Nat×Nat):List Dt:=[.tup [gO n,iJ (uE (l++[o]))],.tup [gO n,iJ l,.tup []],.tup [gO n],iJ l,gO n,od,.tup []]
def L14 (n:Nat)(l:gK)(k:Nat)(t:Nat×Nat):List Dt:=[.tup [gO n,.tup (qb l k [.tup (itm t++[.int 0])])],.tup [gO n,.tup (qb l k [.tup ((itm t).take 1)])]]
section
variable {n k wh:Nat}{l:gK}{t o:Nat×Nat}{od:Dt}(hk:l[k]?=My t)(hl:l.length<=30)(x0 x1:gF Dt)
include hk hl
theorem wO (x:List Dt)(hx:x.length<=3):kF (.tup ((l.map g6).take k)) (.tup x)=My (.tup ((l.map g6).take k++x))/\kF (.tup ((l.map g6).take k++x)) (.tup ((l.map g6).drop (k+1)))=My (.tup (qb l k x)):=by
 have h1:((l.map g6).take k).length<=30:=by rw[bf,ah];lia
 have h2:((l.map g6).drop (k+1)).length<=30:=by rw[bG,ah];lia
 exact⟨wN (by lia),wN (by rw[aC];lia)⟩
theorem MC (x2 x5 x6 x7 x8 x9 x10 x11:gF Dt):bt6 [x0,x1,x2,My (iJ l),My (gO k),x5,x6,x7,x8,x9,x10,x11]=My (.nx [x0,x1,x2,My (iJ l),My (gO k),x5,x6,x7,x8,My (g6 t),x10,x11]):=by
 have:dIx (iJ l) (gO k)=My (g6 t):=by show atI (l.map g6) (k:Int)=_;refine lR ?_;rw[aJ,hk];rfl
 generalize gO k=nk,iJ l=tt at *;simp[bt6,this]
theorem MD (x2 x3 x4 x7 x8 x10 x11:gF Dt):bt7 [x0,x1,x2,x3,x4,My (gO wh),My od,x7,x8,My (g6 t),x10,x11]=My (.nx [x0,x1,x2,x3,x4,My (gO wh),My od,x7,x8,My (g6 t),My (.tup [tY t wh od]),x11]):=by
 have e:g6 t=.tup (itm t):=rfl;have h1:((itm t).take wh).length<=2:=List.length_take_le' _ _;have h2:((itm t).drop (wh+1)).length<=2:=by rw[bG];exact Nat.sub_le _ _
 have a1:=A6 (itm t) wh;have a2:=A7 (itm t) (wh+1);have a3:=ym wh;have a4:=wN (a:=(itm t).take wh) (b:=[od]) (by simp only[aZ];lia);have a5:=wN (a:=(itm t).take wh++[od]) (b:=(itm t).drop (wh+1)) (by rw[aC,aZ];lia);rw[e];unfold tY;generalize gO wh=w0,gO (wh+1)=w1,Dt.tup (itm t)=r4,Dt.tup ((itm t).take wh)=r3,Dt.tup ((itm t).drop (wh+1))=r2,Dt.tup ((itm t).take wh++[od])=r1,Dt.tup ((itm t).take wh++[od]++(itm t).drop (wh+1))=r at *;simp[bt7,a1,a2,a3,a4,a5]
theorem ME (x5 x6 x7 x8 x9 x11:gF Dt):bt8 [x0,x1,My (gO n),My (iJ l),My (gO k),x5,x6,x7,x8,x9,My (.tup [tY t wh od]),x11]=My (.nx [x0,x1,My (gO n),My (iJ l),My (gO k),x5,x6,x7,x8,x9,My (.tup [tY t wh od]),My (.lst (L8 n l k wh t od))]):=by have e:iJ l=.tup (l.map g6):=rfl;have a1:=A6 (l.map g6) k;have a2:=A7 (l.map g6) (k+1);have a3:=ym k;obtain⟨m1,m2⟩:=wO hk hl [tY t wh od] (by simp);have m3:=wN (a:=(l.map g6).take k) (b:=(l.map g6).drop (k+1)) (by rw[bf,bG,ah];lia);unfold L8;rw[e];generalize gO n=nn,gO k=k0,gO (k+1)=k1,Dt.tup [tY t wh od]=r6,Dt.tup (l.map g6)=r4,Dt.tup ((l.map g6).take k)=r3,Dt.tup ((l.map g6).drop (k+1))=r2,Dt.tup ((l.map g6).take k++[tY t wh od])=r1,Dt.tup ((l.map g6).take k++(l.map g6).drop (k+1))=r5,Dt.tup (qb l k [tY t wh od])=r at *;simp[bt8,a1,a2,a3,m1,m2,m3]
theorem MF {S:List Dt}(hS:S.length<=100)(x4 x5 x6 x7 x8 x9 x10:gF Dt):bt9 [x0,x1,My (gO n),My (iJ l),x4,x5,x6,x7,x8,x9,x10,My (.lst S)]=My (.nx [x0,x1,My (gO n),My (iJ l),x4,x5,x6,x7,x8,x9,x10,My (.lst (S++L9 n l))]):=by have lo:oE [iJ l]=My (.lst (l.map g6)):=rfl;have c:=yn (a:=S) (b:=L9 n l) (by show S.length+2<=1000;lia);unfold L9 at *;generalize gO n=nn,iJ l=tt,Dt.lst (l.map g6)=r at *;simp[bt9,lo,c]
theorem Js {S:List Dt}(hS:S.length<=100)(x5 x6 x7 x8 x10:gF Dt):Jn [x0,x1,My (gO n),My (iJ l),My (gO k),x5,x6,x7,x8,My (g6 t),x10,My (.lst S)]=My (.nx [x0,x1,My (gO n),My (iJ l),My (gO k),x5,x6,x7,x8,My (g6 t),x10,My (.lst (S++L10 n l k t))]):=by have e:iJ l=.tup (l.map g6):=rfl;have a1:=A6 (l.map g6) k;have a2:=A7 (l.map g6) (k+1);have a3:=ym k;have lo:oE [g6 t]=My (.lst (itm t)):=rfl;have rv:Gs (g6 t)=My (.tup (itm t).reverse):=rfl;obtain⟨m1,m2⟩:=wO hk hl [.lst (itm t)] (by simp);obtain⟨m3,m4⟩:=wO hk hl [.tup (itm t).reverse] (by simp);have c:=yn (a:=S) (b:=L10 n l k t) (by show S.length+2<=1000;lia);unfold L10 at *;rw[e];generalize gO n=nn,gO k=k0,gO (k+1)=k1,g6 t=pt,Dt.tup (itm t).reverse=r6,Dt.lst (itm t)=r5,Dt.tup (l.map g6)=r4,Dt.tup ((l.map g6).take k)=r3,Dt.tup ((l.map g6).drop (k+1))=r2,Dt.tup ((l.map g6).take k++[.tup (itm t).reverse])=r7,Dt.tup ((l.map g6).take k++[.lst (itm t)])=r1,Dt.tup (qb l k [.tup (itm t).reverse])=r0,Dt.tup (qb l k [.lst (itm t)])=r at *;simp[Jn,gUn,a1,a2,a3,lo,rv,m1,m2,m3,m4,c]
end
section
variable {n k wh:Nat}{l:gK}{t o:Nat×Nat}{od:Dt}(hk:l[k]?=My t)(hl:l.length<=30)(x0 x1:gF Dt)
include hk hl
theorem Jt {S:List Dt}(hS:S.length<=100)(x5 x6 x7 x8 x9 x10:gF Dt):Jo [x0,x1,My (gO n),My (iJ l),My (gO k),x5,x6,x7,x8,x9,x10,My (.lst S)]=My (.nx [x0,x1,My (gO n),My (iJ l),My (gO k),x5,x6,x7,x8,x9,x10,My (.lst (S++L11 n l k))]):=by
 have e:iJ l=.tup (l.map g6):=rfl;have a1:=A6 (l.map g6) (k+1);have a2:=A7 (l.map g6) k;have a3:=ym k;have a4:=ym n;have ne:l.map g6≠[]:=λ z=>by have:l=[]:=List.map_eq_nil_iff.mp z;subst this;cases hk
 have rv:Gs (.tup (l.map g6))=My (.tup (l.map g6).reverse):=by show(if l.map g6≠[] then My (Dt.tup (l.map g6).reverse) else Rl)=_;rw[ai ne]
 have m3:=wN (a:=(l.map g6).take (k+1)) (b:=(l.map g6).drop k) (by rw[bf,bG,ah];lia);have c:=yn (a:=S) (b:=L11 n l k) (by show S.length+3<=1000;lia);unfold L11 at *;rw[e]at *;generalize gO n=nn,gO k=k0,gO (n+1)=n1,gO (k+1)=k1,Dt.tup (l.map g6)=r5,Dt.tup ((l.map g6).drop k)=r4,Dt.tup ((l.map g6).take (k+1))=r3,Dt.tup (l.map g6).reverse=r2,Dt.tup ((l.map g6).take (k+1)++(l.map g6).drop k)=r1 at *;simp[Jo,gUn,a1,a2,a3,a4,rv,m3,c]
theorem Ju {S:List Dt}(hS:S.length<=100)(x4 x5 x7 x8 x9 x10:gF Dt):Jp [x0,x1,My (gO n),My (iJ l),x4,x5,My od,x7,x8,x9,x10,My (.lst S)]=My (.nx [x0,x1,My (gO n),My (iJ l),x4,x5,My od,x7,x8,x9,x10,My (.lst (S++L12 n l od))]):=by have a4:dI (·-·) (gO n) (.int 1)=My (.int ((n:Int)-1)):=rfl;have c:=yn (a:=S) (b:=L12 n l od) (by show S.length+2<=1000;lia);unfold L12 at *;generalize gO n=nn,iJ l=tt,Dt.int ((n:Int)-1)=m at *;simp[Jp,a4,c]
theorem Jv {S:List Dt}(hS:S.length<=100)(x4 x5 x9 x10:gF Dt):Jq [x0,x1,My (gO n),My (iJ l),x4,x5,My od,My (gO o.1),My (gO o.2),x9,x10,My (.lst S)]=My (.nx [x0,x1,My (gO n),My (iJ l),x4,x5,My od,My (gO o.1),My (gO o.2),x9,x10,My (.lst (S++L13 n l od o))]):=by
 have tp:Dt.tup [gO o.1,gO o.2]=g6 o:=rfl;have e:iJ l=.tup (l.map g6):=rfl;have m1:kF (iJ l) (.tup [g6 o])=My (iJ (l++[o])):=by have:=wN (a:=l.map g6) (b:=[g6 o]) (by rw[ah,aZ];lia);rw[e,this];show _=My (Dt.tup ((l++[o]).map g6));rw[bD];rfl
 have s1:vR [iJ (l++[o])]=My (.lst ((uE (l++[o])).map g6)):=by show(dTt (iJ (l++[o]))).bind (λ l=>if l.length<64 then My (Dt.lst ((uE l).map g6)) else Rl)=_;rw[uR,aB,ai (by rw[aC,aZ];lia)]
 have tu:oB [.lst ((uE (l++[o])).map g6)]=My (iJ (uE (l++[o]))):=rfl;have c:=yn (a:=S) (b:=L13 n l od o) (by show S.length+7<=1000;lia);unfold L13 at *;generalize iJ (l++[o])=r3,Dt.lst ((uE (l++[o])).map g6)=r2,iJ (uE (l++[o]))=r1 at *;clear e;generalize gO n=nn,gO o.2=o2,gO o.1=o1,g6 o=po,iJ l=tt at *;simp[Jq,tp,m1,s1,tu,c]
theorem Jw {S:List Dt}(hS:S.length<=100)(x5 x6 x7 x8 x10:gF Dt):Jr [x0,x1,My (gO n),My (iJ l),My (gO k),x5,x6,x7,x8,My (g6 t),x10,My (.lst S)]=My (.nx [x0,x1,My (gO n),My (iJ l),My (gO k),x5,x6,x7,x8,My (g6 t),x10,My (.lst (S++L14 n l k t))]):=by have e:iJ l=.tup (l.map g6):=rfl;have a1:=A6 (l.map g6) k;have a2:=A7 (l.map g6) (k+1);have a3:=ym k;have a5:dTk (g6 t) (.int 1)=My (.tup ((itm t).take 1)):=rfl;have a6:kF (g6 t) (.tup [.int 0])=My (.tup (itm t++[.int 0])):=rfl;obtain⟨m1,m2⟩:=wO hk hl [.tup (itm t++[.int 0])] (by simp);obtain⟨m3,m4⟩:=wO hk hl [.tup ((itm t).take 1)] (by simp);have c:=yn (a:=S) (b:=L14 n l k t) (by show S.length+2<=1000;lia);unfold L14 at *;rw[e];generalize gO n=nn,gO k=k0,gO (k+1)=k1,g6 t=pt,Dt.tup ((itm t).take 1)=r6,Dt.tup (itm t++[.int 0])=r5,Dt.tup (l.map g6)=r4,Dt.tup ((l.map g6).take k)=r3,Dt.tup ((l.map g6).drop (k+1))=r2,Dt.tup ((l.map g6).take k++[.tup ((itm t).take 1)])=r7,Dt.tup ((l.map g6).take k++[.tup (itm t++[.int 0])])=r1,Dt.tup (qb l k [.tup ((itm t).take 1)])=r0,Dt.tup (qb l k [.tup (itm t++[.int 0])])=r at *;simp[Jr,a1,a2,a3,a5,a6,m1,m2,m3,m4,c]
def A8 (n:Nat)(l:gK)(k wh:Nat)(t:Nat×Nat)(od:Dt)(o:Nat×Nat):List Dt:=L8 n l k wh t od++L9 n l++L10 n l k t++L11 n l k++L12 n l od++L13 n l od o++L14 n l k t
end
def fit (d:Dt):Bool:=okW d&&(shW d&&jx d)
theorem qq (a b:List Dt):iY (a++b)=(iY a&&iY b):=by
 induction a with
 | nil=>rw[List.nil_append,iY];rfl
 | cons d r ih=>rw[List.cons_append,iY,iY,ih,Bool.and_assoc]
theorem jA {a:List Dt}:iY a=Rm↔∀ d∈a,jx d=Rm:=by
 induction a with
 | nil=>simp[iY]
 | cons d r ih=>rw[iY,aU,ih];simp
theorem MG (t:Nat×Nat):jx (g6 t)=Rm:=by simp[g6,gO,jx,iY]
theorem m9 (i:Int):jx (.int i)=Rm:=by simp[jx]
theorem lL {a:List Dt}(h:iY a=Rm):jx (.tup a)=Rm:=by rw[jx];exact h
theorem lU (l:gK):iY (l.map g6)=Rm:=jA.mpr λ d hd=>by obtain⟨t,_,rfl⟩:=aA.mp hd;exact MG t
theorem G4 (l:gK):(l.map g6).all kT=Rm:=by rw[bN];intro d hd;obtain⟨t,_,rfl⟩:=aA.mp hd;rfl
theorem uY {m:Dt}{ts:List Dt}(hm:kdB m=Rm)(nm:jx m=Rm)(hl:ts.length<=40)(hk:ts.all kT=Rm)(hn:iY ts=Rm):fit (.tup [m,.tup ts])=Rm:=by
 unfold fit;have a:okW (.tup [m,.tup ts])=Rm:=by show(kdB m&&(decide (ts.length<=1000)&&ts.all kT))=Rm;rw[hm,hk,decide_eq_true (by lia)];rfl
 have b:shW (.tup [m,.tup ts])=Rm:=decide_eq_true hl;rw[a,b,lL (by rw[iY,nm,iY,lL hn];rfl)];rfl
theorem zB {p:Dt->Bool}{a b:List Dt}(h:b.all p=Rm)(s:∀ d∈a,d∈b):a.all p=Rm:=by rw[bN]at *;exact λ d hd=>h d (s d hd)
section
variable {n k wh:Nat}{l:gK}{t o:Nat×Nat}{od:Dt}(hl:l.length<=30)
include hl
theorem sQ {x:List Dt}(hx:x.length<=3)(hk:x.all kT=Rm)(hn:iY x=Rm):fit (.tup [gO n,.tup (qb l k x)])=Rm:=by
 have s1:∀ d∈(l.map g6).take k,d∈l.map g6:=λ d hd=>bT hd;have s2:∀ d∈(l.map g6).drop (k+1),d∈l.map g6:=λ d hd=>cu hd;have n1:iY ((l.map g6).take k)=Rm:=jA.mpr λ d hd=>jA.mp (lU l) d (s1 d hd);have n2:iY ((l.map g6).drop (k+1))=Rm:=jA.mpr λ d hd=>jA.mp (lU l) d (s2 d hd);refine uY rfl (m9 _) ?_ ?_ ?_
 ·unfold qb;rw[aC,aC,bf,bG,ah];lia
 ·unfold qb;rw[List.all_append,List.all_append,zB (G4 l) s1,hk,zB (G4 l) s2];rfl
 ·unfold qb;rw[qq,qq,n1,hn,n2];rfl
theorem A9 {m:Dt}(hm:kdB m=Rm)(nm:jx m=Rm):fit (.tup [m,iJ l])=Rm:=uY hm nm (by rw[ah];lia) (G4 l) (lU l)
omit hl in
theorem zC {ts:List Dt}(h40:ts.length<=40)(s:∀ d∈ts,d∈l.map g6):fit (.tup [gO n,.tup ts])=Rm:=uY rfl (m9 _) h40 (zB (G4 l) s) (jA.mpr λ d hd=>jA.mp (lU l) d (s d hd))
theorem G5:fit (iJ l)=Rm:=by
 have nn:jx (iJ l)=Rm:=lL (lU l);unfold fit;rw[nn,dB];match l with
 | []=>rfl
 | [a]=>rfl
 | [a,b]=>rfl
 | a::b::c::r =>have h1:okW (iJ (a::b::c::r))=((a::b::c::r).map g6).all kdB:=rfl;have h2:shW (iJ (a::b::c::r))=Rm:=rfl;rw[h1,h2,dB,bN];intro d hd;obtain⟨t,_,rfl⟩:=aA.mp hd;rfl
theorem G6 (h1:kdB od=Rm)(h2:kT od=Rm)(h3:fit od=Rm)(hb:kT (tY t wh od)=Rm):∀ d∈A8 n l k wh t od o,fit d=Rm:=by
 have no:jx od=Rm:=by unfold fit at h3;rw[aU,aU]at h3;exact h3.2.2
 have nb:jx (tY t wh od)=Rm:=by
  have a:iY (itm t)=Rm:=by simp[itm,gO,iY,jx]
  refine lL ?_;rw[qq,qq];have x1:iY ((itm t).take wh)=Rm:=jA.mpr λ d hd=>jA.mp a d (bT hd);have x2:iY ((itm t).drop (wh+1))=Rm:=jA.mpr λ d hd=>jA.mp a d (cu hd);rw[x1,x2,iY,no,iY];rfl
 intro d hd;unfold A8 L8 L9 L10 L11 L12 L13 L14 at hd;simp only[aM,ax,aN,or_false]at hd;rcases hd with (((((((rfl | rfl) | rfl | rfl) | rfl | rfl) | rfl | rfl | rfl) | rfl | rfl) | rfl | rfl | rfl | rfl | rfl | rfl | rfl) | rfl | rfl)
 ·exact sQ hl (by simp) (by simp[hb]) (by simp[iY,nb])
 ·exact zC (by rw[aC,bf,bG,ah];lia) λ d hd=>(aM.mp hd).elim bT cu
 ·have:jx (.lst (l.map g6))=Rm:=by
   rw[jx,lU];match l with
   | []=>rfl
   | [a]=>rfl
   | a::b::r=>rfl
  show(Rm&&(Rm&&jx (.tup [gO n,.lst (l.map g6)])))=Rm;rw[lL (by rw[iY,iY,this];rfl)];rfl
 ·have:jx (.lst [gO n,iJ l])=Rm:=by
   rw[jx,iY,iY,show jx (iJ l)=Rm from lL (lU l)];rfl
  show(Rm&&(Rm&&jx (.lst [gO n,iJ l])))=Rm;rw[this];rfl
 ·exact sQ hl (by simp) (by simp[kT,kdB,mz]) (by simp[iY,jx,Mv,itm,gO])
 ·exact sQ hl (by simp) (by simp[kT,kdB,mz,itm,gO]) (by simp[iY,jx,itm,gO])
 ·exact zC (by rw[aC,bf,bG,ah];lia) λ d hd=>(aM.mp hd).elim bT cu
 ·exact zC (by rw[cQ,ah];lia) λ d hd=>fZ.mp hd
 ·exact A9 hl rfl (m9 _)
 ·exact A9 hl rfl (m9 _)
 ·exact A9 hl h1 no
 ·exact uY rfl (m9 _) (by rw[ah,(nR _).length_eq,aC,aZ];lia) (G4 _) (lU _)
 ·have nn:jx (iJ l)=Rm:=lL (lU l);show(Rm&&(Rm&&jx (.tup [gO n,iJ l,.tup []])))=Rm;rw[lL (by rw[iY,iY,nn,iY,iY,jx,iY];rfl)];rfl
 ·show(Rm&&(Rm&&jx (.tup [gO n])))=Rm;simp[jx,iY,gO]
 ·exact G5 hl
 ·show(Rm&&(Rm&&jx (gO n)))=Rm;simp[jx,gO]
 ·exact h3
 ·show(Rm&&(Rm&&jx (.tup [])))=Rm;simp[jx,iY]
 ·exact sQ hl (by simp) (by simp[kT,kdB,mz,itm,gO]) (by simp[iY,jx,itm,gO])
 ·exact sQ hl (by simp) (by simp[kT,kdB,mz,itm,gO]) (by simp[iY,jx,itm,gO])
end
theorem zD (x:Str):oA (.str x) (.str x)=My (.bl Rn):=by
 have a:sh3 (.str x) (.str x)=Rm:=rfl;have b:dEq (.str x) (.str x)=Rm:=by simp[dEq]
 unfold oA;rw[ai a,b];rfl
theorem zE {d:Dt}(h:qw d=Rm):qD [d]=My (.str (rpS d)):=ai h
theorem Good.sR {w:Web}(g:Good w):okW (iP w)=Rm:=by have f:fit (iP w)=Rm:=A9 g.len rfl (m9 _);unfold fit at f;rw[aU]at f;exact f.1
structure Rb (W D:Nat)(d:Dt):Prop where
 pl:plD d=Rm
 sh:(toPy d).showable=Rm
 lv:(toPy d).leavesShort 40=Rm
 wt:(toPy d).weight<=W
 dp:(toPy d).depth<=D
theorem Rb.mono {W D W' D':Nat}{d:Dt}(h:Rb W D d)(hW:W<=W':=by lia)(hD:D<=D':=by lia):Rb W' D' d:=⟨h.pl,h.sh,h.lv,bA h.wt hW,bA h.dp hD⟩
theorem Rb.rp {d:Dt}(h:Rb 40000 20 d):qw d=Rm:=by
 have h6:(toPy d).shown.length<=sizeLine:=by have:=PyData.shown_le 40 (by decide) _ h.lv;have:=h.wt;rw[sizeLine_eq];lia
 have h5:(toPy d).depth<=40:=by have:=h.dp;lia
 unfold qw;rw[h.pl,h.sh,decide_eq_true h6,decide_eq_true h5];rfl
theorem Cj {W D:Nat}:∀ ds:List Dt,(∀ d∈ds,Rb W D d)->xo ds=Rm/\PyData.showableAll (lG ds)=Rm/\PyData.leavesShortAll 40 (lG ds)=Rm/\PyData.weightAll (lG ds)<=(W+1)*ds.length/\PyData.depthAll (lG ds)<=D
 | [],_=>⟨by rw[xo],by rw[lG,PyData.showableAll],by rw[lG,PyData.leavesShortAll],by rw[lG,PyData.weightAll];lia,by rw[lG,PyData.depthAll];lia⟩
 | d::r,h=>by obtain⟨a,b,c,e,f⟩:=Cj r λ y hy=>h y (aw _ hy);have hx:=h d ay;rw[xo,lG,PyData.showableAll,PyData.leavesShortAll,PyData.weightAll,PyData.depthAll,a,b,c,hx.pl,hx.sh,hx.lv,bX,Nat.mul_succ];have:=hx.wt;have:=hx.dp;exact⟨rfl,rfl,rfl,by lia,by lia⟩
theorem G7 {W m k:Nat}(h:k<=m):(W+1)*k<=(W+1)*m:=Nat.mul_le_mul_left _ h
theorem Rb.tup {W D:Nat}(m:Nat){ds:List Dt}(h:∀ d∈ds,Rb W D d)(hl:ds.length<=m):Rb ((W+1)*m) (D+1) (.tup ds):=by obtain⟨a,b,c,d,e⟩:=Cj ds h;have:=G7 (W:=W) hl;exact⟨by rw[plD];exact a,by rw[toPy,PyData.showable];exact b,by rw[toPy,PyData.leavesShort];exact c,by rw[toPy,PyData.weight];lia,by rw[toPy,PyData.depth];lia⟩
theorem Rb.lst {W D:Nat}(m:Nat){ds:List Dt}(h:∀ d∈ds,Rb W D d)(hl:ds.length<=m):Rb ((W+1)*m) (D+1) (.lst ds):=by obtain⟨a,b,c,d,e⟩:=Cj ds h;have:=G7 (W:=W) hl;exact⟨by rw[plD];exact a,by rw[toPy,PyData.showable];exact b,by rw[toPy,PyData.leavesShort];exact c,by rw[toPy,PyData.weight];lia,by rw[toPy,PyData.depth];lia⟩
theorem Ck {i:Int}(h1:(PyData.int i).showable=Rm)(h2:(PyData.int i).leavesShort 40=Rm)(h3:(PyData.int i).weight<=100):Rb 100 2 (.int i):=⟨by simp[plD],by rw[toPy];exact h1,by rw[toPy];exact h2,by rw[toPy];exact h3,by rw[toPy,PyData.depth];lia⟩
theorem kK {k:Nat}(h:k<20):Rb 100 2 (gO k):=by
 have:∀ y:Nat,y<20->(PyData.int (y:Int)).showable=Rm/\(PyData.int (y:Int)).leavesShort 40=Rm/\(PyData.int (y:Int)).weight<=100:=by decide +kernel
 exact Ck (this k h).1 (this k h).2.1 (this k h).2.2
theorem G8:Rb 100 2 (.int (-1)):=Ck (by decide +kernel) (by decide +kernel) (by decide +kernel)
theorem G9:Rb 100 2 (.int 100000000000000000000000000000):=Ck (by decide +kernel) (by decide +kernel) (by decide +kernel)
theorem G_ (b:Bool):Rb 100 2 (.bl b):=⟨by simp[plD],by rw[toPy,PyData.showable],by rw[toPy,PyData.leavesShort],by rw[toPy,PyData.weight];lia,by rw[toPy,PyData.depth];lia⟩
theorem Hb:Rb 100 2 .non:=⟨by simp[plD],by rw[toPy,PyData.showable]<;>simp,by rw[toPy,PyData.leavesShort]<;>simp,by rw[toPy,PyData.weight]<;>simp,by rw[toPy,PyData.depth]<;>simp⟩
theorem Hc {x:Str}(h1:(x.cps.toList.all λ c=>decide (c<16 ^ 8))=Rm)(h2:x.cps.size<=100):Rb 100 2 (.str x):=⟨by simp[plD],by rw[toPy,PyData.showable],by rw[toPy,PyData.leavesShort];exact h1,by rw[toPy,PyData.weight];exact h2,by rw[toPy,PyData.depth];lia⟩
theorem Hd {k:Nat}(h:k<2):Rb 100 2 (.tup [gO k]):=by
 have:∀ y:Nat,y<2->(PyData.tuple [.int (y:Int)]).showable=Rm/\(PyData.tuple [.int (y:Int)]).leavesShort 40=Rm/\(PyData.tuple [.int (y:Int)]).weight<=100/\(PyData.tuple [.int (y:Int)]).depth<=2:=by decide +kernel
 have e:toPy (.tup [gO k])=.tuple [.int k]:=by rw[toPy,lG,lG,show gO k=.int k from rfl,toPy]
 obtain⟨a,b,c,d⟩:=this k h;exact⟨by simp[plD,xo,gO],by rw[e];exact a,by rw[e];exact b,by rw[e];exact c,by rw[e];exact d⟩
theorem Jx:Rb 100 2 (.lst [.int 1]):=by
 have e:toPy (.lst [.int 1])=.list [.int 1]:=by rw[toPy,lG,lG,toPy]
 exact⟨by simp[plD,xo],by rw[e];decide +kernel,by rw[e];decide +kernel,by rw[e];decide +kernel,by rw[e];decide +kernel⟩
theorem uZ {a b:Nat}(ha:a<20)(hb:b<20):Rb 303 3 (g6 (a,b)):=by
 refine(Rb.tup 3 (W:=100) (D:=2) (ds:=[gO a,gO b]) (λ d hd=>?_) (by simp)).mono;simp only[ax,aN,or_false]at hd;rcases hd with rfl | rfl
 ·exact kK ha
 ·exact kK hb
section
variable {n k wh:Nat}{l:gK}{t o:Nat×Nat}{od:Dt}(n2:2<=n)(n8:n<=8)(hl:l.length<=30)(hm:∀ t∈l,t.1<9/\t.2<9)(hk:l[k]?=My t)(ho:o.1<9/\o.2<9)(hod:Rb 100 2 od)
omit n2 n8 hl hm hk ho hod in
theorem rf {ts:List Dt}(ht:∀ d∈ts,Rb 303 3 d)(hl:ts.length<=32):Rb 9728 4 (.tup ts):=Rb.tup 32 ht hl
omit n2 n8 hl hm hk ho hod in
theorem ky {x y z:Dt}(hx:Rb 9728 4 x)(hy:Rb 9728 4 y)(hz:Rb 9728 4 z):Rb 40000 20 (.tup [x,y])/\Rb 40000 20 (.lst [x,y])/\Rb 40000 20 (.tup [x,y,z])/\Rb 40000 20 (.tup [x]):=by
 refine⟨(Rb.tup 3 (W:=9728) (D:=4) (λ d hd=>?_) (by simp)).mono,(Rb.lst 3 (W:=9728) (D:=4) (λ d hd=>?_) (by simp)).mono,(Rb.tup 3 (W:=9728) (D:=4) (λ d hd=>?_) (by simp)).mono,(Rb.tup 3 (W:=9728) (D:=4) (λ d hd=>?_) (by simp)).mono⟩
 ·simp only[ax,aN,or_false]at hd
  rcases hd with rfl | rfl
  ·exact hx
  ·exact hy
 ·simp only[ax,aN,or_false]at hd
  rcases hd with rfl | rfl
  ·exact hx
  ·exact hy
 ·simp only[ax,aN,or_false]at hd
  rcases hd with rfl | rfl | rfl
  ·exact hx
  ·exact hy
  ·exact hz
 ·simp only[ax,aN,or_false]at hd;subst hd;exact hx
include n2 n8 hl hm hk ho hod in
theorem Jy:∀ d∈A8 n l k wh t od o,qw d=Rm:=by
 have hkl:k<l.length:=(aL.mp hk).1;have htm:=hm t (aY hk);have kn:Rb 100 2 (gO n):=kK (by lia);have kn':Rb 9728 4 (gO n):=kn.mono;have ko':Rb 9728 4 od:=hod.mono;have km:∀ d∈l.map g6,Rb 303 3 d:=λ d hd=>by obtain⟨u,hu,rfl⟩:=aA.mp hd;have:=hm u hu;exact uZ (by lia) (by lia)
 have kT:Rb 9728 4 (iJ l):=rf km (by rw[ah];lia);have kL:Rb 9728 4 (.lst (l.map g6)):=Rb.lst 32 km (by rw[ah];lia);have kE:Rb 9728 4 (.tup []):=rf (λ d hd=>by cases hd) (by simp);have ki:∀ d∈itm t,Rb 100 2 d:=λ d hd=>by
  simp only[itm,ax,aN,or_false]at hd;rcases hd with rfl | rfl
  ·exact kK (by lia)
  ·exact kK (by lia)
 have sub:∀ ts:List Dt,(∀ d∈ts,d∈l.map g6)->ts.length<=32->Rb 9728 4 (.tup ts):=λ ts h hl=>rf (λ d hd=>km d (h d hd)) hl;have mid:∀ x:Dt,Rb 303 3 x->Rb 9728 4 (.tup (qb l k [x])):=λ x hx=>by
  unfold qb;refine rf (λ d hd=>?_) (by rw[aC,aC,bf,bG,ah,aZ];lia);rcases aM.mp hd with hd | hd
  ·rcases aM.mp hd with hd | hd
   ·exact km d (bT hd)
   ·rw[aV.mp hd];exact hx
  ·exact km d (cu hd)
 have ln:(l.map g6).length=l.length:=ah ..;have il:(itm t).length=2:=rfl;intro d hd;refine Rb.rp ?_;unfold A8 L8 L9 L10 L11 L12 L13 L14 at hd;simp only[aM,ax,aN,or_false]at hd;rcases hd with (((((((rfl | rfl) | rfl | rfl) | rfl | rfl) | rfl | rfl | rfl) | rfl | rfl) | rfl | rfl | rfl | rfl | rfl | rfl | rfl) | rfl | rfl)
 ·refine(ky kn' (mid _ ?_) kE).1
  unfold tY;refine Rb.tup 3 (W:=100) (D:=2) (λ d hd=>?_) (by rw[aC,aC,bf,bG,aZ];lia);rcases aM.mp hd with hd | hd
  ·rcases aM.mp hd with hd | hd
   ·exact ki d (bT hd)
   ·rw[aV.mp hd];exact hod
  ·exact ki d (cu hd)
 ·exact(ky kn' (sub _ (λ d hd=>(aM.mp hd).elim bT cu) (by rw[aC,bf,bG];lia)) kE).1
 ·exact(ky kn' kL kE).1
 ·exact(ky kn' kT kE).2.1
 ·exact(ky kn' (mid _ (Rb.lst 3 (W:=100) (D:=2) ki (by lia))) kE).1
 ·exact(ky kn' (mid _ (Rb.tup 3 (W:=100) (D:=2) (λ d hd=>ki d (fZ.mp hd)) (by rw[cQ];lia))) kE).1
 ·exact(ky kn' (sub _ (λ d hd=>(aM.mp hd).elim bT cu) (by rw[aC,bf,bG];lia)) kE).1
 ·exact(ky kn' (sub _ (λ d hd=>fZ.mp hd) (by rw[cQ];lia)) kE).1
 ·exact(ky ((kK (by lia)).mono) kT kE).1
 ·have e:((n:Int)-1)=((n-1:Nat):Int):=by lia
  rw[e];exact(ky ((kK (k:=n-1) (by lia)).mono) kT kE).1
 ·exact(ky ko' kT kE).1
 ·refine(ky kn' (rf (λ d hd=>?_) ?_) kE).1
  ·obtain⟨u,hu,rfl⟩:=aA.mp hd
   rcases aM.mp ((nR _).mem_iff.mp hu) with h | h
   ·have:=hm u h;exact uZ (by lia) (by lia)
   ·rw[aV.mp h];exact uZ (by lia) (by lia)
  ·rw[ah,(nR _).length_eq,aC,aZ];lia
 ·exact(ky kn' kT kE).2.2.1
 ·exact(ky kn' kT kE).2.2.2
 ·exact kT.mono
 ·exact kn.mono
 ·exact hod.mono
 ·exact kE.mono
 ·exact(ky kn' (mid _ (Rb.tup 3 (W:=100) (D:=2) (λ d hd=>by
   rcases aM.mp hd with hd | hd
   ·exact ki d hd
   ·rw[aV.mp hd];exact kK (k:=0) (by lia)) (by rw[aC,il];simp))) kE).1
 ·exact(ky kn' (mid _ (Rb.tup 3 (W:=100) (D:=2) (λ d hd=>ki d (bT hd)) (by rw[bf];lia))) kE).1
end
theorem Good.MH {w:Web}(g:Good w):qw (iP w)=Rm:=by have w8:=g.nQ;refine Rb.rp (ky ((kK (k:=w.1) (by lia)).mono) (rf (λ d hd=>?_) (by rw[ah];have:=g.len;lia)) (rf (ts:=[]) (λ d hd=>by cases hd) (by simp))).1;obtain⟨u,hu,rfl⟩:=aA.mp hd;have:=g.ok u hu;exact uZ (by lia) (by lia)
def xWP (x y:Dt)(k:Web->Nat->XD):XD:=match xW x with
 | .error c=>.error c
 | .ok w=>match xP w y with
  | .error c=>.error c
  | .ok a=>k w a
def wQ (x y z:Dt)(k:Web->Nat->Nat->XD):XD:=xWP x y λ w a=>match xP w z with
 | .error c=>.error c
 | .ok b=>k w a b
def He (w:Web)(a:Nat):XD:=.ok (.tup ((nb w.2 a).map gO))
def apX (w:Web)(a b:Nat):XD:=.ok (gO (ds w.2 a b))
def lV:List Dt->gF XD
 | [x,y]=>if okW x=Rm/\kdB y=Rm then My (xWP x y He) else Rl
 | _=>Rl
def sS:List Dt->gF XD
 | [x,y,z]=>if okW x=Rm/\kdB y=Rm/\kdB z=Rm then My (wQ x y z apX) else Rl
 | _=>Rl
def kS:DE->gF RX:=B7 (vX (su 1 lH (gN (gS 0) gR))) (B7 (vX (su 2 jL (gN (gS 0) (gN (gS 1) gR)))) (xUp (kN (iq 2 mM (gN (hU dIx (gS 0) (gC (.int 1))) (gN (gS 1) gR))))))
def nY:DE->gF RX:=B7 (vX (su 1 lH (gN (gS 0) gR))) (B7 (vX (su 2 jL (gN (gS 0) (gN (gS 1) gR)))) (B7 (vX (su 2 jL (gN (gS 0) (gN (gS 2) gR)))) (xUp (kN (hU Ip (iq 2 kg (gN (hU dIx (gS 0) (gC (.int 1))) (gN (gS 1) gR))) (gS 2))))))
theorem wR:HgX 2 ["web","place"] lV kS:=by
 intro ds r hl h;match ds,h with
 | [x,y],h =>
  by_cases hx:okW x=Rm/\kdB y=Rm
  rotate_left
  ·exact absurd ((aq hx).symm.trans h) (λ e=>by cases e)
  have h:My (xWP x y He)=My r:=(ai hx).symm.trans h;cases h;obtain⟨hx,hy⟩:=hx;have c1:=cw_X hx;unfold xWP;cases e1:xW x with
  | error k=>rw[e1]at c1;exact⟨.ex k,by simp[kS,c1,tT],rfl⟩
  | ok w =>
   rw[e1]at c1;obtain⟨rfl,g⟩:=Ku e1;have c2:=Mf g hy;dsimp only;cases e2:xP w y with
   | error k=>rw[e2]at c2;generalize iP w=ww at *;exact⟨.ex k,by simp[kS,c1,c2,tT],rfl⟩
   | ok a =>rw[e2]at c2;obtain⟨rfl,ha⟩:=GC e2;have tk:=Iy g.len a;have ix:dIx (iP w) (.int 1)=My (iJ w.2):=rfl;refine⟨.rt (.tup ((nb w.2 a).map gO)),?_,rfl⟩;generalize gO a=na,iP w=ww,iJ w.2=tt,Dt.tup ((nb w.2 a).map gO)=ns at *;simp[kS,c1,c2,ix,tk,tT]
theorem Eo:HgX 3 ["web","a","b"] sS nY:=by
 intro ds r hl h;match ds,h with
 | [x,y,z],h =>
  by_cases hx:okW x=Rm/\kdB y=Rm/\kdB z=Rm
  rotate_left
  ·exact absurd ((aq hx).symm.trans h) (λ e=>by cases e)
  have h:My (wQ x y z apX)=My r:=(ai hx).symm.trans h;cases h;obtain⟨hx,hy,hz⟩:=hx;have c1:=cw_X hx;unfold wQ xWP;cases e1:xW x with
  | error k=>rw[e1]at c1;exact⟨.ex k,by simp[nY,c1,tT],rfl⟩
  | ok w =>
   rw[e1]at c1;obtain⟨rfl,g⟩:=Ku e1;have c2:=Mf g hy;have c3:=Mf g hz;dsimp only;cases e2:xP w y with
   | error k=>rw[e2]at c2;generalize iP w=ww at *;exact⟨.ex k,by simp[nY,c1,c2,tT],rfl⟩
   | ok a =>
    rw[e2]at c2;obtain⟨rfl,ha⟩:=GC e2;dsimp only;cases e3:xP w z with
    | error k=>rw[e3]at c3;generalize gO a=na,iP w=ww at *;exact⟨.ex k,by simp[nY,c1,c2,c3,tT],rfl⟩
    | ok b =>rw[e3]at c3;obtain⟨rfl,hb⟩:=GC e3;have dk:=F8 (uS w.2) (by have:=g.len;lia) a;have gd:=IE (g.key ha hb);have ix:dIx (iP w) (.int 1)=My (iJ w.2):=rfl;have gd:Ip (.dct (jK (bfs w.2 a))) (gO b)=My (gO (L2.ds w.2 a b)):=gd;refine⟨.rt (gO (L2.ds w.2 a b)),?_,rfl⟩;generalize gO b=nb,gO a=na,iP w=ww,iJ w.2=tt,Dt.dct (jK (bfs w.2 a))=dd,gO (L2.ds w.2 a b)=res at *;simp[nY,c1,c2,c3,ix,dk,gd,tT]
def me (k:Int)(x y z:Dt):XD:=if k=0 then xWP x y He else wQ x y z apX
def mD:List Dt->gF Dt
 | [k,x,y,z]=>(uB k).bind λ k=>if okW x=Rm/\kdB y=Rm/\kdB z=Rm then My (sdX (me k x y z)) else Rl
 | _=>Rl
def Jz:DE->gF RX:=Md (xIf (gB (hU rP (gS 0) (gC (.int 0)))) (su 2 lV (gN (gS 1) (gN (gS 2) gR))) (su 3 sS (gN (gS 1) (gN (gS 2) (gN (gS 3) gR)))))
theorem JA (k:Int){x y z:Dt}(hx:okW x=Rm)(hy:kdB y=Rm)(hz:kdB z=Rm)(r:gF Dt):Jz [My (.int k),My x,My y,My z,r]=My (rtX (me k x y z)):=by
 have c1:lV [x,y]=My (xWP x y He):=ai ⟨hx,hy⟩;have c2:sS [x,y,z]=My (wQ x y z apX):=ai ⟨hx,hy,hz⟩;have q:rP (.int k) (.int 0)=My (.bl (decide (k=0))):=by show My (Dt.bl (k==0))=My (Dt.bl (decide (k=0)));rfl
 unfold me;by_cases h:k=0
 ·rw[ai h];rw[decide_eq_true h]at q;generalize xWP x y He=rr at *;cases rr<;>simp[Jz,c1,q,rtX]
 ·rw[aq h];rw[decide_eq_false h]at q;generalize wQ x y z apX=rr at *;cases rr<;>simp[Jz,c2,q,rtX]
theorem JB {k:Int}{x y z:Dt}{c:Str}(h:me k x y z=.error c):c∈vY:=by
 have m1:("NoWeb":Str)∈vY:=by decide +kernel
 have m2:("NoPlace":Str)∈vY:=by decide +kernel
 have hw:∀ {c:Str},xW x=.error c->c∈vY:=λ e=>by
  unfold xW at e;split at e
  ·cases e
  ·cases e;exact m1
 have hp:∀ {w:Web} {y:Dt} {c:Str},xP w y=.error c->c∈vY:=λ e=>by
  unfold xP at e;split at e
  ·cases e
  ·cases e;exact m2
 unfold me wQ xWP at h;cases e1:xW x with
 | error c1=>rw[e1]at h;split at h<;>(cases h;exact hw e1)
 | ok w =>
  rw[e1]at h;dsimp only at h;cases e2:xP w y with
  | error c2=>rw[e2]at h;split at h<;>(cases h;exact hp e2)
  | ok a =>
   rw[e2]at h;dsimp only at h;split at h
   ·cases h
   ·cases e3:xP w z with
    | error c3=>rw[e3]at h;cases h;exact hp e3
    | ok b=>rw[e3]at h;cases h
end L2
namespace K01
open PySem PySem.Spec PyProof.Rows L2 Zp
section
variable {P:Program}{w:World}{K:gG}{mg:gD}{base:Heap}
theorem wU (T:Txt K mg):OkX P w base T.oP 6 (spX K T.er.C 2 lV):=T.oP.okX (g:=kS) xu (λ _ _ _ _ _ _ hr=>pU (sv (oG (pCE T.nD (qJ T) hr (gM (dv 0) gT)))) (pU (sv (oG (pCE T.kR (mq T) hr (gM (dv 0) (gM (dv 1) gT))))) (oH (Kt (jb (dC T.qp (wJ T) hr (gM (mW (dv 0) ie) (gM (dv 1) gT)))))))) wR
theorem Ep (T:Txt K mg):OkX P w base T.zx 6 (spX K T.er.C 3 sS):=T.zx.okX (g:=nY) GQ (λ _ _ _ _ _ _ hr=>pU (sv (oG (pCE T.nD (qJ T) hr (gM (dv 0) gT)))) (pU (sv (oG (pCE T.kR (mq T) hr (gM (dv 0) (gM (dv 1) gT))))) (pU (sv (oG (pCE T.kR (mq T) hr (gM (dv 0) (gM (dv 2) gT))))) (oH (Kt (jb (NF (fS (h_ hr)) (dC T.ma (oX T) hr (gM (mW (dv 0) ie) (gM (dv 1) gT))) (dv 2)))))))) Eo
theorem lM (T:Txt K mg):OkT P w base T.ko 7 (spD K 4 mD):=by
 refine T.ko.F.ok zw (λ vs H Q E h=>?_) (λ cdv A outer s H vs Q E hr h=>?_)
 ·obtain⟨ds,d,hl,is,_⟩:=h;rw[is.length,hl];rfl
 ·obtain⟨ds,d,hl,is,e,q⟩:=h
  match ds,hl,is,e with
  | [dk,x,y,z],_,is,e =>
   obtain⟨k,e1,e⟩:=gQ (show(uB dk).bind _=_ from e);by_cases hx:okW x=Rm/\kdB y=Rm/\kdB z=Rm
   rotate_left
   ·rw[aq hx]at e;cases e
   rw[ai hx]at e;cases e;obtain⟨hx,hy,hz⟩:=hx;rw[lX e1]at is;refine⟨_,iW (LZ (i:=4) (tb:=λ E'=>tXS K T.er.C E' Jz) T.er.w (λ E' pn=>oH (C:=T.er.C) (E:=E') (Me (NQ (jn (FA (h_ hr)) (dv 0) ie) (oG (pCT T.oP (wU T) hr (gM (dv 1) (gM (dv 2) gT)))) (oG (pCT T.zx (Ep T) hr (gM (dv 1) (gM (dv 2) (gM (dv 3) gT))))))))
    (λ a pn=>iW (kG (pCN T.nE (Ji T) (hr.toN (by decide) _) (gP (pv 4) g_))))),?_⟩
   refine⟨λ cl a H'=>∃ c,me k x y z=.error c/\cl=.ref (T.er.C c)/\gY H H',?_,?_⟩
   ·refine⟨_,_,is.start (N:=["_law_door","_law_web_here","_law_a","_law_b","_law_e"]),JA k hx hy hz Rl,λ H1 s1=>?_⟩
    cases er:me k x y z with
    | ok d=>rw[er]at q;exact λ v iv=>q v H1 s1 iv
    | error c=>exact λ e he=>⟨c,rfl,rfl,s1⟩
   ·rintro cls a H' ⟨c,er,rfl,s'⟩ ha
    have mc:=JB er;obtain⟨i,hi,ei⟩:=Gw mc;obtain⟨eC,_⟩:=Gx T.er i hi ei;rw[er]at q;refine⟨⟨_,rfl,by rw[eC];exact(T.er.ci i hi).sub⟩,λ σ1 hl1=>?_⟩;refine⟨.ref a,?_,a,c,rfl,mc,gW,λ H2 s2=>q _ _ ((s'.trans (gY.upd ha)).trans s2) (.str _)⟩;have:4<σ1.length:=by rw[hl1];exact d_ 4
    exact cv this
end
section
variable {P:Program}{w:World}{K:gG}{mg:gD}{base:Heap}
theorem A_ {H:Hp}(f:Nat->Nat):∀ l:List Nat,Iss K H (l.map λ i=>iV (f i)) (l.map λ i=>gO (f i))
 | []=>.nil
 | _::r=>.cons (.int _) (A_ f r)
theorem Ba (T:Txt K mg):OkT P w base T.q_ 2 (spD K 2 oZ):=by
 refine T.q_.F.ok uv (λ vs H Q E h=>?_) (λ cdv A outer s H vs Q E hr h=>?_)
 ·obtain⟨ds,d,hl,is,_⟩:=h;rw[is.length,hl];rfl
 ·obtain⟨ds,d,hl,is,e,q⟩:=h
  obtain⟨x,y,rfl,e⟩:=nN e;obtain⟨ww,e1,e⟩:=gQ e;obtain⟨b,e2,e⟩:=gQ e;by_cases hc:b<ww.1
  rotate_left
  ·rw[aq hc]at e;cases e
  rw[ai hc]at e;cases e;obtain⟨rfl,hg⟩:=vN e1;obtain⟨v,v2,rfl,i0,i2⟩:=is.two;rw[lC e2]at i2;have hv2:=i2.int_inv;subst hv2;refine⟨Ot K,g0 (iX (i:=2) uv.nd rfl (Or.inl rfl) (jv EO (jP (gP qK g_)) (lu qM (pv 0) hJ (λ _ _=>rfl))))
   (g0 (yr hJ (Bh (pv 2) (pv 1) set_list))
   (g0 (mQ bP rfl (lN rfl T.jT (gP (lu qM (pv 0) hJ (λ _ _=>rfl)) g_)) (pgo 3)
    (iW (mQ bP rfl (lN rfl T.jT (gP (lu qM (pv 0) hJ (λ _ _=>rfl)) g_)) (pgo 4)
     (iW (qy (jn Oe (mW (dv 2) (dv 4)) (dv 3))
      (iW (mQ bP rfl (rq (dC T.nF (sO T) hr (gM (dv 0) (gM (dv 4) gT)))) (pgo 5)
       (iW (yr (Pw (jn Od (mW (dv 2) (dv 5)) Nm) (jR qC (dv 3) ie) (mW (dv 2) (dv 5))) (Bh (pv 2) (pv 5) set_list))))) lQ)))))
   (iW (kG (pv 2))))),?_⟩
  exact hg.Ou hc (λ i hi=>hg.Kn hc i hi) i0 λ l H' s' _ hl=>q _ H' s' (.lst hl (A_ _ _))
end
end K01
namespace L2
open PySem PySem.Spec PyProof.Rows Zp Qs
section
variable {es fs:List Expr}{env:Env}{e a b:Expr}{k:Nat}{p:Pos}
theorem stC {c:Const}:starEach (.Constant c k p::es) env=(Rn,eval (.Constant c k p) env)::starEach es env:=rfl
theorem stT {j}:starEach (.Tuple fs j p::es) env=(Rn,eval (.Tuple fs j p) env)::starEach es env:=rfl
theorem stL:starEach (.List fs p::es) env=(Rn,eval (.List fs p) env)::starEach es env:=rfl
theorem stB {o}:starEach (.BinOp a o b p::es) env=(Rn,eval (.BinOp a o b p) env)::starEach es env:=rfl
theorem stU {o}:starEach (.UnaryOp o a p::es) env=(Rn,eval (.UnaryOp o a p) env)::starEach es env:=rfl
theorem stX:starEach (.Subscript a b p::es) env=(Rn,eval (.Subscript a b p) env)::starEach es env:=rfl
end
end L2
namespace K01
open PySem PySem.Spec PyProof.Rows L2 Zp
theorem Er (n:Int){m:Nat}(h:0<m):∃ d:Nat,n % (m:Int)=d/\d<m:=⟨(n % (m:Int)).toNat,by have:=cg n (show(m:Int)≠0 by lia);lia,by have:=cL n (show(0:Int)<m by lia);have:=cg n (show(m:Int)≠0 by lia);lia⟩
section
variable {P:Program}{w:World}{K:gG}{mg:gD}{base:Heap}
def MI (K:gG):Sp:=λ vs H Q _=>∃ (p:Addr) (n:Int) (v:V) (ww:Web),vs=[.ref p,v]/\Good ww/\Is K H v (iP ww)/\H p=My (.lst [.int n]) /\
 ∀ (u:V) (d:Dt) (n':Int) (H':Hp),mG ww.1 d=Rn->kdB d=Rm->qw d=Rm->Is K (hdP H' p) u d->H' p=My (.lst [.int n'])->But p H H'->Q u H'
def tNo (K:gG):TS:=wZ (tOp (pF K) (ph (gX (tOp (HH K) (hX 1) (tC (V.int 0))) (gX (tUn (rU λ i=>V.int (-i)) (tC (V.int 1))) (gX (tC (V.bl Rm)) (gX (tC (V.bl Rn)) (gX (tC V.non) (gX (tC (V.str "0")) (gX (pg (gX (tC (V.int 0)) iA)) (gX (ph (gX (tC (V.int 1)) iA)) (gX (tC (V.int 8)) (gX (tOp (rI K1 λ i j=>V.int (i ^ j.toNat)) (tC (V.int 10)) (tC (V.int 29))) iA))))))))))) (jo kr [] E0 (gX (hX 0) (gX (tC (V.int 10)) iA))))
theorem Ov (T:Txt K mg)(cdv:gH)(A:Around)(outer:List Env)(s:gJ)(H:Hp)(E:XK)(hr:jt 1 (A.deeper (envOfC "_law_no_place" (gZ jZ) s.heap.objs.size T.j5.f cdv))):PSs (pj CX0 P w K mg base ["_law_pot_here","_law_web_here"] "_law_no_place" (gZ jZ) T.j5.f cdv A outer s H E).nox (iL jZ) (tNo K) :=
 iW (kG (lu kz (jP (gP (lu qM (pv 1) hJ (λ _ _=>rfl)) (gP (EG Bk hJ) (gP tZ (gP tZ (gP qK (gP yp (gP (mf (gP hJ g_ stC)) (gP (jP (gP hJ g_ stC)) (gP hJ (gP (jv yv hJ hJ) g_ stB) stC) stL) stT) stC) stC) stC) stC) stU) stX)) (pC T.iK (jF T) hr (gP (pv 0) (gP hJ g_))) (λ _ _=>rfl)))
end
section
variable {P:Program}{w:World}{K:gG}{mg:gD}{base:Heap}
theorem Bb (T:Txt K mg):OkT P w base T.j5 2 (MI K):=by
 refine T.j5.F.ok tU (λ vs H Q E h=>?_) (λ cdv A outer s H vs Q E hr h=>?_)
 ·obtain⟨p,n,v,ww,rfl,_⟩:=h;rfl
 ·obtain⟨p,n,v,ww,rfl,hg,iw,hp,q⟩:=h
  refine⟨tNo K,Ov T cdv A outer s H E hr,?_⟩;have w2:=hg.two;have w8:=hg.nQ;obtain⟨r,xs,rfl,hr3,is3⟩:=iw.ip;obtain⟨v0,v1,rfl,j0,j1⟩:=is3.two;have hv0:=j0.int_inv;subst hv0;refine⟨_,rfl,r,_,_,.int ww.1,rfl,rfl,hr3,rfl,1,rfl,by show 1<=sizeLine;decide,λ q1 h1=>⟨by show 1<=sizeLine;decide,λ q2 h2=>?_⟩⟩;refine⟨10,29,rfl,rfl,⟨by decide,by decide,by decide⟩,by show 10<=sizeLine;decide,λ q3 h3=>?_⟩;have np1:q1≠p:=λ z=>by subst z;rw[hp]at h1;cases h1
  have hp1:upd H q1 (.tup [.int 0]) p=My (.lst [.int n]):=by rw[g9 (bj np1)];exact hp
  have b1:But p H (upd H q1 (.tup [.int 0])):=(But.refl p H).new h1;have t1:upd H q1 (.tup [.int 0]) q1=My (.tup [.int 0]):=gW;generalize upd H q1 (.tup [.int 0])=H1 at *;have np2:q2≠p:=λ z=>by subst z;rw[hp1]at h2;cases h2
  have s12:gY H1 (upd H1 q2 (.lst [.int 1])):=gY.upd h2;have b2:But p H (upd H1 q2 (.lst [.int 1])):=b1.new (b1.none h2 np2);have hp2:=s12 _ _ hp1;have t2:=s12 _ _ t1;have l2:upd H1 q2 (.lst [.int 1]) q2=My (.lst [.int 1]):=gW;generalize upd H1 q2 (.lst [.int 1])=H2 at *;have np3:q3≠p:=λ z=>by subst z;rw[hp2]at h3;cases h3
  generalize hvs:[V.int ww.1,.int (-1),.bl Rm,.bl Rn,.non,.str "0",.ref q1,.ref q2,.int 8,.int (10 ^ Int.toNat 29)]=vs;have s23:gY H2 (upd H2 q3 (.lst vs)):=gY.upd h3;have b3:But p H (upd H2 q3 (.lst vs)):=b2.new (b2.none h3 np3);have hp3:=s23 _ _ hp2;have t3:=s23 _ _ t2;have l3:=s23 _ _ l2;have m3:upd H2 q3 (.lst vs) q3=My (.lst vs):=gW;show jo kr [] E0 (gX (hX 0) (gX (tC (V.int 10)) iA)) _ (upd H2 q3 (.lst vs)) _;generalize upd H2 q3 (.lst vs)=H3 at *;refine⟨_,rfl,p,n,10,rfl,hp3,by decide,by decide,?_⟩;obtain⟨j,hj,jl⟩:=Er n (show 0<10 by decide);have hj:n % 10=(j:Int):=hj;rw[hj];have hp4:upd H3 p (.lst [.int (n / 10)]) p=My (.lst [.int (n / 10)]):=gW;have b4:But p H (upd H3 p (.lst [.int (n / 10)])):=b3.sP;have t4:hdP (upd H3 p (.lst [.int (n / 10)])) p q1=My (.tup [.int 0]):=by rw[oY np1,g9 np1];exact t3
  have l4:hdP (upd H3 p (.lst [.int (n / 10)])) p q2=My (.lst [.int 1]):=by rw[oY np2,g9 np2];exact l3
  have m4:upd H3 p (.lst [.int (n / 10)]) q3=My (.lst vs):=by rw[g9 np3];exact m3
  generalize upd H3 p (.lst [.int (n / 10)])=H4 at *;have fin:∀ (u:V) (d:Dt),vs[j]?=My u->mG ww.1 d=Rn->kdB d=Rm->Rb 100 2 d->Is K (hdP H4 p) u d->pF K (.ref q3) (.int j) H4 Q:=λ u d e1 e2 e3 e5 e4 =>⟨q3,vs,j,u,rfl,rfl,SqL.of m4,lR e1,q u d _ H4 e2 e3 (Rb.rp e5.mono) e4 hp4 b4⟩
  have pl:∀ i:Int,¬ (0<=i/\i<(ww.1:Int))->mG ww.1 (.int i)=Rn:=λ i h=>decide_eq_false h;have big:(10:Int) ^ Int.toNat 29=100000000000000000000000000000:=by decide +kernel
  show pF K (.ref q3) (.int j) H4 Q;have cs:j=0\/j=1\/j=2\/j=3\/j=4\/j=5\/j=6\/j=7\/j=8\/j=9:=by lia
  rcases cs with rfl | rfl | rfl | rfl | rfl | rfl | rfl | rfl | rfl | rfl
  ·exact fin _ (.int ww.1) (by rw[<-hvs];rfl) (pl _ (by lia)) rfl (kK (k:=ww.1) (by lia)) (.int _)
  ·exact fin _ (.int (-1)) (by rw[<-hvs];rfl) (pl _ (by lia)) rfl G8 (.int _)
  ·exact fin _ (.bl Rm) (by rw[<-hvs];rfl) rfl rfl (G_ _) (.bl _)
  ·exact fin _ (.bl Rn) (by rw[<-hvs];rfl) rfl rfl (G_ _) (.bl _)
  ·exact fin _ .non (by rw[<-hvs];rfl) rfl rfl Hb .non
  ·exact fin _ (.str "0") (by rw[<-hvs];rfl) rfl rfl (Hc (by decide +kernel) (by decide +kernel)) (.str _)
  ·exact fin _ (.tup [.int 0]) (by rw[<-hvs];rfl) rfl rfl (Hd (k:=0) (by lia)) (.tup (SqT.of t4) (.cons (.int _) .nil))
  ·exact fin _ (.lst [.int 1]) (by rw[<-hvs];rfl) rfl rfl Jx (.lst l4 (.cons (.int _) .nil))
  ·exact fin _ (.int 8) (by rw[<-hvs];rfl) (pl _ (by lia)) rfl (kK (k:=8) (by lia)) (.int _)
  ·exact fin _ (.int 100000000000000000000000000000) (by rw[<-hvs,big];rfl) (pl _ (by lia)) rfl G9 (.int _)
end
theorem stV {x:Str}{p:Pos}{es:List Expr}{env:Env}:starEach (.Name x p::es) env=(Rn,eval (.Name x p) env)::starEach es env:=rfl
section
variable {P:Program}{w:World}{K:gG}{mg:gD}{base:Heap}
def Ow (K:gG):TE:=tOp (pF K) (ph (gX (tC (V.int 8)) (gX (hX 2) (gX (tUn (rU λ i=>V.int (-i)) (tC (V.int 1))) (gX (tC (V.bl Rm)) (gX (tC (V.bl Rn)) (gX (tC V.non) (gX (tC (V.str "1")) (gX (pg (gX (tC (V.int 1)) iA)) (gX (tOp (rI K1 λ i j=>V.int (i ^ j.toNat)) (tC (V.int 10)) (tC (V.int 29))) (gX (tC (V.int 0)) iA))))))))))) (jo kr [] E0 (gX (hX 0) (gX (tC (V.int 10)) iA)))
def MJ (K:gG):TS:=kH (Ow K) (iM 6)
theorem MK (T:Txt K mg)(cdv:gH)(A:Around)(outer:List Env)(s:gJ)(H:Hp)(E:XK)(hr:jt 1 (A.deeper (envOfC "_law_bent" (gZ hV) s.heap.objs.size T.iO.f cdv))):∀ st,(iL hV)[3]?=My st->PS (pj CX0 P w K mg base ["_law_pot_here","_law_web_here","_law_many","_law_ties","_law_at","_law_which","_law_odd","_law_one","_law_other","_law_tie","_law_bent_here","_law_some"] "_law_bent" (gZ hV) T.iO.f cdv A outer s H E).nox st (MJ K):=by intro st h;obtain rfl:=ak h;exact(iX (i:=6) iQ.nd rfl (Or.inl rfl) (lu kz (jP (gP hJ (gP (pv 2) (gP (EG Bk hJ) (gP tZ (gP tZ (gP qK (gP yp (gP (mf (gP hJ g_ stC)) (gP (jv yv hJ hJ) (gP hJ g_ stC) stB) stT) stC) stC) stC) stC) stU) stV) stC)) (pC T.iK (jF T) hr (gP (pv 0) (gP hJ g_))) (λ _ _=>rfl)))
end
section
variable {P:Program}{w:World}{K:gG}{mg:gD}{base:Heap}
abbrev XB (P:Program)(w:World)(K:gG)(mg:gD)(base:Heap)(T:Txt K mg)(cdv:gH)(A:Around)(outer:List Env)(s:gJ)(H:Hp)(E:XK):Cx:=(pj CX0 P w K mg base ["_law_pot_here","_law_web_here","_law_many","_law_ties","_law_at","_law_which","_law_odd","_law_one","_law_other","_law_tie","_law_bent_here","_law_some"] "_law_bent" (gZ hV) T.iO.f cdv A outer s H E).nox
theorem Ox (T:Txt K mg)(cdv:gH)(A:Around)(outer:List Env)(s:gJ)(H:Hp)(E:XK)(hr:jt 1 (A.deeper (envOfC "_law_bent" (gZ hV) s.heap.objs.size T.iO.f cdv))):∀ st,(iL hV)[6]?=My st->PS (XB P w K mg base T cdv A outer s H E) st (tDS K bt6):=by intro st h;obtain rfl:=ak h;exact(j8 (i:=9) iQ.nd (mW (dv 3) (dv 4)))
theorem Oy (T:Txt K mg)(cdv:gH)(A:Around)(outer:List Env)(s:gJ)(H:Hp)(E:XK)(hr:jt 1 (A.deeper (envOfC "_law_bent" (gZ hV) s.heap.objs.size T.iO.f cdv))):∀ st,(iL hV)[7]?=My st->PS (XB P w K mg base T cdv A outer s H E) st (tDS K bt7):=by intro st h;obtain rfl:=ak h;exact(j8 (i:=10) iQ.nd (jc (gM (jR kJ (jR kJ (mI (dv 9) (dv 5)) (jc (gM (dv 6) gT))) (nA (dv 9) (jR qC (dv 5) ie))) gT)))
theorem OA (T:Txt K mg)(cdv:gH)(A:Around)(outer:List Env)(s:gJ)(H:Hp)(E:XK)(hr:jt 1 (A.deeper (envOfC "_law_bent" (gZ hV) s.heap.objs.size T.iO.f cdv))):∀ st,(iL hV)[8]?=My st->PS (XB P w K mg base T cdv A outer s H E) st (tDS K bt8):=by intro st h;obtain rfl:=ak h;exact(j8 (i:=11) iQ.nd (mv (gM (jc (gM (dv 2) (gM (jR kJ (jR kJ (mI (dv 3) (dv 4)) (dv 10)) (nA (dv 3) (jR qC (dv 4) ie))) gT))) (gM (jc (gM (dv 2) (gM (jR kJ (mI (dv 3) (dv 4)) (nA (dv 3) (jR qC (dv 4) ie))) gT))) gT))))
theorem OB (T:Txt K mg)(cdv:gH)(A:Around)(outer:List Env)(s:gJ)(H:Hp)(E:XK)(hr:jt 1 (A.deeper (envOfC "_law_bent" (gZ hV) s.heap.objs.size T.iO.f cdv))):∀ st,(iL hV)[9]?=My st->PS (XB P w K mg base T cdv A outer s H E) st (tDS K bt9):=by intro st h;obtain rfl:=ak h;exact(j8 (i:=11) iQ.nd (jR o8 (dv 11) (mv (gM (jc (gM (dv 2) (gM (mU vM T.wH boot_list (gM (dv 3) gT)) gT))) (gM (mv (gM (dv 2) (gM (dv 3) gT))) gT)))))
theorem ML (T:Txt K mg)(cdv:gH)(A:Around)(outer:List Env)(s:gJ)(H:Hp)(E:XK)(hr:jt 1 (A.deeper (envOfC "_law_bent" (gZ hV) s.heap.objs.size T.iO.f cdv))):∀ st,(iL hV)[10]?=My st->PS (XB P w K mg base T cdv A outer s H E) st (tDS K Jn):=by intro st h;obtain rfl:=ak h;exact(j8 (i:=11) iQ.nd (jR o8 (dv 11) (mv (gM (jc (gM (dv 2) (gM (jR kJ (jR kJ (mI (dv 3) (dv 4)) (jc (gM (mU vM T.wH boot_list (gM (dv 9) gT)) gT))) (nA (dv 3) (jR qC (dv 4) ie))) gT))) (gM (jc (gM (dv 2) (gM (jR kJ (jR kJ (mI (dv 3) (dv 4)) (jc (gM (Ks (dv 9)) gT))) (nA (dv 3) (jR qC (dv 4) ie))) gT))) gT)))))
theorem MM (T:Txt K mg)(cdv:gH)(A:Around)(outer:List Env)(s:gJ)(H:Hp)(E:XK)(hr:jt 1 (A.deeper (envOfC "_law_bent" (gZ hV) s.heap.objs.size T.iO.f cdv))):∀ st,(iL hV)[11]?=My st->PS (XB P w K mg base T cdv A outer s H E) st (tDS K Jo):=by intro st h;obtain rfl:=ak h;exact(j8 (i:=11) iQ.nd (jR o8 (dv 11) (mv (gM (jc (gM (dv 2) (gM (jR kJ (mI (dv 3) (jR qC (dv 4) ie)) (nA (dv 3) (dv 4))) gT))) (gM (jc (gM (dv 2) (gM (Ks (dv 3)) gT))) (gM (jc (gM (jR qC (dv 2) ie) (gM (dv 3) gT))) gT))))))
theorem MN (T:Txt K mg)(cdv:gH)(A:Around)(outer:List Env)(s:gJ)(H:Hp)(E:XK)(hr:jt 1 (A.deeper (envOfC "_law_bent" (gZ hV) s.heap.objs.size T.iO.f cdv))):∀ st,(iL hV)[12]?=My st->PS (XB P w K mg base T cdv A outer s H E) st (tDS K Jp):=by intro st h;obtain rfl:=ak h;exact(j8 (i:=11) iQ.nd (jR o8 (dv 11) (mv (gM (jc (gM (jR Nu (dv 2) ie) (gM (dv 3) gT))) (gM (jc (gM (dv 6) (gM (dv 3) gT))) gT)))))
theorem MO (T:Txt K mg)(cdv:gH)(A:Around)(outer:List Env)(s:gJ)(H:Hp)(E:XK)(hr:jt 1 (A.deeper (envOfC "_law_bent" (gZ hV) s.heap.objs.size T.iO.f cdv))):∀ st,(iL hV)[13]?=My st->PS (XB P w K mg base T cdv A outer s H E) st (tDS K Jq):=by intro st h;obtain rfl:=ak h;exact(j8 (i:=11) iQ.nd (jR o8 (dv 11) (mv (gM (jc (gM (dv 2) (gM (mU uO T.kD boot_tuple (gM (iG (DT rfl) T.p_ boot_sorted (gM (jR kJ (dv 3) (jc (gM (jc (gM (dv 7) (gM (dv 8) gT))) gT))) gT)) gT)) gT))) (gM (jc (gM (dv 2) (gM (dv 3) (gM (jc gT) gT)))) (gM (jc (gM (dv 2) gT)) (gM (dv 3) (gM (dv 2) (gM (dv 6) (gM (jc gT) gT))))))))))
theorem MP (T:Txt K mg)(cdv:gH)(A:Around)(outer:List Env)(s:gJ)(H:Hp)(E:XK)(hr:jt 1 (A.deeper (envOfC "_law_bent" (gZ hV) s.heap.objs.size T.iO.f cdv))):∀ st,(iL hV)[14]?=My st->PS (XB P w K mg base T cdv A outer s H E) st (tDS K Jr):=by intro st h;obtain rfl:=ak h;exact(j8 (i:=11) iQ.nd (jR o8 (dv 11) (mv (gM (jc (gM (dv 2) (gM (jR kJ (jR kJ (mI (dv 3) (dv 4)) (jc (gM (jR kJ (dv 9) (jc (gM ie gT))) gT))) (nA (dv 3) (jR qC (dv 4) ie))) gT))) (gM (jc (gM (dv 2) (gM (jR kJ (jR kJ (mI (dv 3) (dv 4)) (jc (gM (mI (dv 9) ie) gT))) (nA (dv 3) (jR qC (dv 4) ie))) gT))) gT)))))
end
end K01
namespace L2
open PySem PySem.Spec PyProof.Rows Zp Qs
section
variable {K:gG}{H:Hp}
theorem Sat.inv {σ:L2.St}{d:Dt}{δ:DE}(S:Sat K H σ (My d::δ)):∃ v σ',σ=My v::σ'/\Is K H v d/\Sat K H σ' δ:=by
 obtain⟨v,e,i⟩:=S.at_ 0 d rfl;cases σ with
 | nil=>cases e
 | cons x r=>cases e;exact⟨v,r,rfl,i,Nat.succ.inj S.len,λ j d hj=>S.at_ (j+1) d hj⟩
theorem Sat.Bc {σ:L2.St}{δ:DE}(S:Sat K H σ (Rl::δ)):∃ x σ',σ=x::σ'/\Sat K H σ' δ:=by
 cases σ with
 | nil=>cases S.len
 | cons x r=>exact⟨x,r,rfl,Nat.succ.inj S.len,λ j d hj=>S.at_ (j+1) d hj⟩
theorem Sat.Qq {σ:L2.St}(S:Sat K H σ [Rl,Rl,Rl,Rl]):∃ x0 x1 x2 x3,σ=[x0,x1,x2,x3]:=by
 obtain⟨x0,r0,rfl,S0⟩:=S.Bc;obtain⟨x1,r1,rfl,S1⟩:=S0.Bc;obtain⟨x2,r2,rfl,S2⟩:=S1.Bc;obtain⟨x3,r3,rfl,S3⟩:=S2.Bc;have:=S3.len;cases r3 with
 | nil=>exact⟨_,_,_,_,rfl⟩
 | cons _ _=>cases this
end
end L2
namespace K02
open PySem PySem.Spec PyProof.Rows L2 Zp
section
variable {P:Program}{w:World}{K:gG}{mg:gD}{base:Heap}
end
end K02
namespace K01
open PySem PySem.Spec PyProof.Rows L2 Zp
section
variable {P:Program}{w:World}{K:gG}{mg:gD}{base:Heap}
theorem o6 {H:Hp}{p:Addr}{o:HO}:hdP (upd H p o) p=hdP H p:=funext λ b=>by
 unfold hdP;by_cases c:b=p
 ·rw[ai c,ai c]
 ·rw[aq c,aq c,g9 c]
def FR (d:Dt):Prop:=fit d=Rm/\qw d=Rm
def Odd (od:Dt):Prop:=Rb 100 2 od/\kdB od=Rm/\kT od=Rm/\fit od=Rm/\∀ (t:Nat×Nat) (wh:Nat),wh<2->kT (tY t wh od)=Rm
theorem sT {i:Int}(h:Rb 100 2 (.int i)):Odd (.int i):=⟨h,rfl,rfl,by simp[fit,okW,shW,jx];rfl,λ t wh h=>by rcases (by lia:wh=0\/wh=1) with rfl | rfl<;>rfl⟩
theorem Hf (i:Bool):Odd (.bl i):=⟨G_ _,rfl,rfl,by simp[fit,okW,shW,jx];rfl,λ t wh h=>by rcases (by lia:wh=0\/wh=1) with rfl | rfl<;>rfl⟩
theorem JC:Odd .non:=⟨Hb,rfl,rfl,by simp[fit,okW,shW,jx];rfl,λ t wh h=>by rcases (by lia:wh=0\/wh=1) with rfl | rfl<;>rfl⟩
theorem JD:Odd (.str "1"):=⟨Hc (by decide +kernel) (by decide +kernel),rfl,rfl,by simp[fit,okW,shW,jx];rfl,λ t wh h=>by rcases (by lia:wh=0\/wh=1) with rfl | rfl<;>rfl⟩
theorem JE:Odd (.tup [.int 1]):=⟨Hd (k:=1) (by lia),rfl,rfl,by simp[fit,okW,shW,jx,iY];rfl,λ t wh h=>by rcases (by lia:wh=0\/wh=1) with rfl | rfl<;>rfl⟩
theorem MQ {D:Ends}{σ:L2.St}{H:Hp}{p:Addr}{n nn:Int}(hnn:Rb 100 2 (.int nn))(h0:σ[0]?=My (My (.ref p)))(h2:σ[2]?=My (My (.int nn)))(hp:H p=My (.lst [.int n]))
  (h:∀ (u:V) (od:Dt) (n':Int) (H':Hp),Odd od->Is K (hdP H' p) u od->H' p=My (.lst [.int n'])->But p H H'->D.nx (σ.set 6 (My u)) H'):MJ K D σ H:=by
 refine⟨_,h2,1,rfl,by show 1<=sizeLine;decide,λ q1 h1=>?_⟩;refine⟨10,29,rfl,rfl,⟨by decide,by decide,by decide⟩,by show 10<=sizeLine;decide,λ q3 h3=>?_⟩;have np1:q1≠p:=λ z=>by subst z;rw[hp]at h1;cases h1
 have hp1:upd H q1 (.tup [.int 1]) p=My (.lst [.int n]):=by rw[g9 (bj np1)];exact hp
 have b1:But p H (upd H q1 (.tup [.int 1])):=(But.refl p H).new h1;have t1:upd H q1 (.tup [.int 1]) q1=My (.tup [.int 1]):=gW;generalize upd H q1 (.tup [.int 1])=H1 at *;have np3:q3≠p:=λ z=>by subst z;rw[hp1]at h3;cases h3
 generalize hvs:[V.int 8,.int nn,.int (-1),.bl Rm,.bl Rn,.non,.str "1",.ref q1,.int (10 ^ Int.toNat 29),.int 0]=vs;have s23:gY H1 (upd H1 q3 (.lst vs)):=gY.upd h3;have b3:But p H (upd H1 q3 (.lst vs)):=b1.new (b1.none h3 np3);have hp3:=s23 _ _ hp1;have t3:=s23 _ _ t1;have m3:upd H1 q3 (.lst vs) q3=My (.lst vs):=gW;show jo kr [] E0 (gX (hX 0) (gX (tC (V.int 10)) iA)) _ (upd H1 q3 (.lst vs)) _;generalize upd H1 q3 (.lst vs)=H3 at *;refine⟨_,h0,p,n,10,rfl,hp3,by decide,by decide,?_⟩;obtain⟨j,hj,jl⟩:=Er n (show 0<10 by decide);have hj:n % 10=(j:Int):=hj;rw[hj];have hp4:upd H3 p (.lst [.int (n / 10)]) p=My (.lst [.int (n / 10)]):=gW;have b4:But p H (upd H3 p (.lst [.int (n / 10)])):=b3.sP;have t4:hdP (upd H3 p (.lst [.int (n / 10)])) p q1=My (.tup [.int 1]):=by rw[oY np1,g9 np1];exact t3
 have m4:upd H3 p (.lst [.int (n / 10)]) q3=My (.lst vs):=by rw[g9 np3];exact m3
 generalize upd H3 p (.lst [.int (n / 10)])=H4 at *;have fin:∀ (u:V) (d:Dt),vs[j]?=My u->Odd d->Is K (hdP H4 p) u d->pF K (.ref q3) (.int j) H4 (λ v H'=>iM 6 v σ H' λ σ' H''=>D.nx σ' H''):=λ u d e1 e2 e4 =>⟨q3,vs,j,u,rfl,rfl,SqL.of m4,lR e1,h u d _ H4 e2 e4 hp4 b4⟩
 have big:(10:Int) ^ Int.toNat 29=100000000000000000000000000000:=by decide +kernel
 have cs:j=0\/j=1\/j=2\/j=3\/j=4\/j=5\/j=6\/j=7\/j=8\/j=9:=by lia
 rcases cs with rfl | rfl | rfl | rfl | rfl | rfl | rfl | rfl | rfl | rfl
 ·exact fin _ (.int 8) (by rw[<-hvs];rfl) (sT (kK (k:=8) (by lia))) (.int _)
 ·exact fin _ (.int nn) (by rw[<-hvs];rfl) (sT hnn) (.int _)
 ·exact fin _ (.int (-1)) (by rw[<-hvs];rfl) (sT G8) (.int _)
 ·exact fin _ (.bl Rm) (by rw[<-hvs];rfl) (Hf _) (.bl _)
 ·exact fin _ (.bl Rn) (by rw[<-hvs];rfl) (Hf _) (.bl _)
 ·exact fin _ .non (by rw[<-hvs];rfl) JC .non
 ·exact fin _ (.str "1") (by rw[<-hvs];rfl) JD (.str _)
 ·exact fin _ (.tup [.int 1]) (by rw[<-hvs];rfl) JE (.tup (SqT.of t4) (.cons (.int _) .nil))
 ·exact fin _ (.int 100000000000000000000000000000) (by rw[<-hvs,big];rfl) (sT G9) (.int _)
 ·exact fin _ (.int 0) (by rw[<-hvs];rfl) (sT (kK (k:=0) (by lia))) (.int _)
def Hi (K:gG):Sp:=λ vs H Q _=>∃ (p:Addr) (n:Int) (v:V) (ww:Web),vs=[.ref p,v]/\Good ww/\Is K H v (iP ww)/\H p=My (.lst [.int n]) /\
 ∀ (u:V) (d:Dt) (n':Int) (H':Hp),FR d->Is K (hdP H' p) u d->H' p=My (.lst [.int n'])->But p H H'->Q u H'
def tDr (m:Int)(i:Nat):TS:=kH (jo kr [] E0 (gX (hX 0) (gX (tC (V.int m)) iA))) (iM i)
def tLn (K:gG):TS:=kH (jo kr [] E0 (gX (hX 0) (gX (tCB (GY K) (gX (hX 3) iA)) iA))) (iM 4)
def KC (K:gG):TS:=wZ (tOp (pF K) (hX 11) (jo kr [] E0 (gX (hX 0) (gX (tC (V.int 20)) iA))))
def tB6 (K:gG):TS:=jh (tDS K bt6) (jh (tDS K bt7) (jh (tDS K bt8) (jh (tDS K bt9) (jh (tDS K Jn) (jh (tDS K Jo) (jh (tDS K Jp) (jh (tDS K Jq) (jh (tDS K Jr) (KC K)))))))))
def KD (K:gG):TS:=jh (tDS K (Ai (nM 2 3) (gS 1))) (jh (tLn K) (jh (tDr 2 5) (jh (MJ K) (jh (tDr 9 7) (jh (tDr 9 8) (tB6 K))))))
theorem Hj {D:Ends}{σ:L2.St}{H:Hp}{p:Addr}{n:Int}{i:Nat}(m:Nat)(h0:σ[0]?=My (My (.ref p)))(hp:H p=My (.lst [.int n]))(m0:0<m)(mb:m<1000)
  (h:∀ (a:Nat) (n':Int),a<m->D.nx (σ.set i (My (iV a))) (upd H p (.lst [.int n']))):tDr m i D σ H:=by
 obtain⟨a,ha,am⟩:=Er n m0;refine⟨_,h0,p,n,m,rfl,hp,by lia,by lia,?_⟩;rw[ha];exact h a _ am
theorem OC {D:Ends}{σ:L2.St}{H:Hp}{p:Addr}{n:Int}{v:V}{l:gK}(h0:σ[0]?=My (My (.ref p)))(h3:σ[3]?=My (My v))(iv:Is K H v (iJ l))(hp:H p=My (.lst [.int n]))(m0:0<l.length)(mb:l.length<=30)
  (h:∀ (a:Nat) (n':Int),a<l.length->D.nx (σ.set 4 (My (iV a))) (upd H p (.lst [.int n']))):tLn K D σ H:=by
 obtain⟨q,ys,rfl,sq,is⟩:=iv.ip;have e:ys.length=l.length:=by rw[is.length,ah]
 obtain⟨a,ha,am⟩:=Er n m0;refine⟨_,h0,_,h3,q,ys,rfl,.inr sq,p,n,ys.length,rfl,hp,by lia,by lia,?_⟩;rw[e,ha];exact h a _ am
theorem JF {D:Ends}{σ:L2.St}{H:Hp}{p:Addr}{n:Int}{v:V}{ds:List Dt}(h0:σ[0]?=My (My (.ref p)))(h11:σ[11]?=My (My v))(iv:Is K H v (.lst ds))(hl:ds.length=20)(hf:∀ d∈ds,FR d)(hp:H p=My (.lst [.int n]))
  (h:∀ (u:V) (d:Dt) (n':Int) (H':Hp),FR d->Is K (hdP H' p) u d->H' p=My (.lst [.int n'])->But p H H'->D.rt u H'):KC K D σ H:=by
 have nn:jx (.lst ds)=Rm:=by
  have a:iY ds=Rm:=jA.mpr λ d hd=>by have:=(hf d hd).1;unfold fit at this;rw[aU,aU]at this;exact this.2.2
  match ds,hl,a with
  | x::y::r,_,a =>
   have:Mv (x::y::r)=Rn:=by cases x<;>rfl
   rw[jx,a,this];rfl
 obtain⟨q,vs,rfl,hq,is⟩:=(Ci hp _ nn iv).lst_inv;have nq:q≠p:=λ z=>by subst z;unfold hdP at hq;rw[ai rfl]at hq;cases hq
 rw[oY nq]at hq;obtain⟨a,ha,am⟩:=Er n (show 0<20 by decide);have ha:n % 20=(a:Int):=ha;refine⟨_,h11,_,h0,p,n,20,rfl,hp,by decide,by decide,?_⟩;rw[ha];have hd:a<ds.length:=by lia
 obtain⟨u,hu,iu⟩:=is.get (aG hd);refine⟨q,vs,a,u,rfl,rfl,SqL.of (by rw[g9 nq];exact hq),lR hu,?_⟩;exact h u _ _ _ (hf _ (dJ hd)) (by rw[o6];exact iu) gW (But.refl p H).sP
theorem Es (n:Nat)(l:gK)(k wh:Nat)(t:Nat×Nat)(od:Dt)(o:Nat×Nat):(A8 n l k wh t od o).length=20:=rfl
theorem OD {D:Ends}{H:Hp}{p:Addr}{n:Int}{y1 v3 u:V}{m k wh c d:Nat}{l:gK}{t:Nat×Nat}{od:Dt}{x9 x10 x11:gF V}(m2:2<=m)(m8:m<=8)(hm:∀ t∈l,t.1<9/\t.2<9)(hcd:c<9/\d<9)(hk:l[k]?=My t)(hl:l.length<=30)(hw:wh<2)(ho:Odd od)(i3:Is K H v3 (iJ l))(iu:Is K H u od)(hp:H p=My (.lst [.int n]))
  (h:∀ (u:V) (d:Dt) (n':Int) (H':Hp),FR d->Is K (hdP H' p) u d->H' p=My (.lst [.int n'])->But p H H'->D.rt u H'):tB6 K D [My (.ref p),My y1,My (iV m),My v3,My (iV k),My (iV wh),My u,My (iV c),My (iV d),x9,x10,x11] H:=by
 refine⟨_,_,stS (.opq _) (stN (stS (.int _) (stS i3 (stS (.int _) (stS (.int _) (stS iu (stS (.int _) (stS (.int _) (stN (stN (stN L2.stE))))))))))),MC hk hl ..,λ H1 s1 σ1 S1=>⟨_,_,S1,MD hk hl ..,λ H2 s2 σ2 S2=>⟨_,_,S2,ME hk hl ..,λ H3 s3 σ3 S3=>⟨_,_,S3,MF hk hl _ _ (by show 2<=100;decide) ..,λ H4 s4 σ4 S4=>⟨_,_,S4,Js hk hl _ _ (by show 4<=100;decide) ..,λ H5 s5 σ5 S5=>⟨_,_,S5,Jt hk hl _ _ (by show 6<=100;decide) ..,λ H6 s6 σ6 S6=>⟨_,_,S6,Ju hk hl _ _ (by show 9<=100;decide) ..,λ H7 s7 σ7 S7=>⟨_,_,S7,Jv (o:=(c,d)) hk hl _ _ (by show 11<=100;decide) ..,λ H8 s8 σ8 S8=>⟨_,_,S8,Jw hk hl _ _ (by show 18<=100;decide) ..,λ H9 s9 σ9 S9=>?_⟩⟩⟩⟩⟩⟩⟩⟩⟩;have s:=((((((((s1.trans s2).trans s3).trans s4).trans s5).trans s6).trans s7).trans s8).trans s9);clear S1 S2 S3 S4 S5 S6 S7 S8;obtain⟨v0,e0,i0⟩:=S9.at_ 0 _ rfl;obtain⟨v11,e11,i11⟩:=S9.at_ 11 _ rfl;have:=i0.qf;subst this;exact JF e0 e11 i11 (Es m l k wh t od (c,d)) (λ x hx=>⟨G6 hl ho.2.1 ho.2.2.1 ho.2.2.2.1 (ho.2.2.2.2 t wh hw) x hx,Jy (o:=(c,d)) m2 m8 hl hm hk hcd ho.1 x hx⟩) (s _ _ hp) λ u d n' H' hf iu hp' b=>h u d n' H' hf iu hp' (λ a o e ne=>b a o (s _ _ e) ne)
theorem Hk {D:Ends}{H:Hp}{p:Addr}{n:Int}{v:V}{ww:Web}(hg:Good ww)(iw:Is K H v (iP ww))(hp:H p=My (.lst [.int n])){x2 x3 x4 x5 x6 x7 x8 x9 x10 x11:gF V}
  (h:∀ (u:V) (d:Dt) (n':Int) (H':Hp),FR d->Is K (hdP H' p) u d->H' p=My (.lst [.int n'])->But p H H'->D.rt u H'):KD K D [My (.ref p),My v,x2,x3,x4,x5,x6,x7,x8,x9,x10,x11] H:=by
 have lp:0<ww.2.length:=dD.mpr hg.ne;have l30:=hg.len;refine⟨_,_,stS (.opq _) (stS iw (stN (stN (stN (stN (stN (stN (stN (stN (stN (stN L2.stE))))))))))),(rfl:Ai (nM 2 3) (gS 1) [My (.opq (.ref p)),My (iP ww),Rl,Rl,Rl,Rl,Rl,Rl,Rl,Rl,Rl,Rl]=My (.nx [My (.opq (.ref p)),My (iP ww),My (gO ww.1),My (iJ ww.2),Rl,Rl,Rl,Rl,Rl,Rl,Rl,Rl])),λ H1 s1 σ1 S1=>?_⟩;obtain⟨y0,r0,rfl,j0,R0⟩:=S1.inv;obtain⟨y1,r1,rfl,j1,R1⟩:=R0.inv;obtain⟨y2,r2,rfl,j2,R2⟩:=R1.inv;obtain⟨y3,r3,rfl,j3,R3⟩:=R2.inv;obtain⟨z4,r4,rfl,R4⟩:=R3.Bc;obtain⟨z5,r5,rfl,R5⟩:=R4.Bc;obtain⟨z6,r6,rfl,R6⟩:=R5.Bc;obtain⟨z7,r7,rfl,R7⟩:=R6.Bc;obtain⟨z8,z9,z10,z11,rfl⟩:=R7.Qq;have:=j0.qf;subst this;have:=j2.int_inv;subst this;clear S1 R0 R1 R2 R3 R4 R5 R6 R7;have hp1:=s1 _ _ hp;have g3:=Ci hp1 _ (lL (lU ww.2)) j3;have b1:But p H H1:=λ a o e _=>s1 a o e;clear hp;refine OC rfl rfl j3 hp1 lp l30 λ k n1 hk=>?_;have b2:But p H (upd H1 p (.lst [.int n1])):=b1.sP;have hp2:upd H1 p (.lst [.int n1]) p=My (.lst [.int n1]):=gW;have g3:Is K (hdP (upd H1 p (.lst [.int n1])) p) y3 (iJ ww.2):=by rw[o6];exact g3
 generalize upd H1 p (.lst [.int n1])=H2 at *;refine Hj 2 rfl hp2 (by decide) (by decide) λ wh n2 hw=>?_;have b3:But p H (upd H2 p (.lst [.int n2])):=b2.sP;have hp3:upd H2 p (.lst [.int n2]) p=My (.lst [.int n2]):=gW;have g3:Is K (hdP (upd H2 p (.lst [.int n2])) p) y3 (iJ ww.2):=by rw[o6];exact g3
 generalize upd H2 p (.lst [.int n2])=H3 at *;refine MQ (nn:=ww.1) (kK (k:=ww.1) (by have:=hg.nQ;lia)) rfl rfl hp3 λ u od n3 H4 ho iu hp4 c4=>?_;have b4:But p H H4:=λ a o e ne=>c4 a o (b3 a o e ne) ne;have g3:Is K (hdP H4 p) y3 (iJ ww.2):=g3.ext (uX λ a o e ne=>c4 a o e ne);refine Hj 9 rfl hp4 (by decide) (by decide) λ c n5 hc=>?_;have b5:But p H (upd H4 p (.lst [.int n5])):=b4.sP;have hp5:upd H4 p (.lst [.int n5]) p=My (.lst [.int n5]):=gW;have g3:Is K (hdP (upd H4 p (.lst [.int n5])) p) y3 (iJ ww.2):=by rw[o6];exact g3
 have iu:Is K (hdP (upd H4 p (.lst [.int n5])) p) u od:=by rw[o6];exact iu
 generalize upd H4 p (.lst [.int n5])=H5 at *;refine Hj 9 rfl hp5 (by decide) (by decide) λ d n6 hd=>?_;have b6:But p H (upd H5 p (.lst [.int n6])):=b5.sP;have hp6:upd H5 p (.lst [.int n6]) p=My (.lst [.int n6]):=gW;have g3:Is K (hdP (upd H5 p (.lst [.int n6])) p) y3 (iJ ww.2):=by rw[o6];exact g3
 have iu:Is K (hdP (upd H5 p (.lst [.int n6])) p) u od:=by rw[o6];exact iu
 generalize upd H5 p (.lst [.int n6])=H6 at *;exact OD hg.two hg.nQ (λ t ht=>by have:=hg.ok t ht;have:=hg.nQ;lia) ⟨hc,hd⟩ (aG hk) l30 hw ho (g3.ext (nX _ _)) (iu.ext (nX _ _)) hp6 λ u d n' H' hf iu hp' b=>h u d n' H' hf iu hp' (λ a o e ne=>b a o (b6 a o e ne) ne)
theorem zF (T:Txt K mg):OkT P w base T.iO 2 (Hi K):=by
 refine T.iO.F.ok iQ (λ vs H Q E h=>?_) (λ cdv A outer s H vs Q E hr h=>?_)
 ·obtain⟨p,n,v,ww,rfl,_⟩:=h;rfl
 ·obtain⟨p,n,v,ww,rfl,hg,iw,hp,q⟩:=h
  refine⟨KD K,g0 (yT (dv 1) (nZ rfl (je (pgo 2) (je (pgo 3) mE))) ni)
   (g0 (iX (i:=4) iQ.nd rfl (Or.inl rfl) (pC T.iK (jF T) hr (gP (pv 0) (gP (jH lx (by rfl) T.pZ cz (gP (pv 3) g_)) g_))))
   (g0 (iX (i:=5) iQ.nd rfl (Or.inl rfl) (pC T.iK (jF T) hr (gP (pv 0) (gP hJ g_))))
   (g0 (MK T cdv A outer s H E hr _ rfl)
   (g0 (iX (i:=7) iQ.nd rfl (Or.inl rfl) (pC T.iK (jF T) hr (gP (pv 0) (gP hJ g_))))
   (g0 (iX (i:=8) iQ.nd rfl (Or.inl rfl) (pC T.iK (jF T) hr (gP (pv 0) (gP hJ g_))))
   (g0 (Ox T cdv A outer s H E hr _ rfl) (g0 (Oy T cdv A outer s H E hr _ rfl) (g0 (OA T cdv A outer s H E hr _ rfl) (g0 (OB T cdv A outer s H E hr _ rfl) (g0 (ML T cdv A outer s H E hr _ rfl) (g0 (MM T cdv A outer s H E hr _ rfl) (g0 (MN T cdv A outer s H E hr _ rfl) (g0 (MO T cdv A outer s H E hr _ rfl) (g0 (MP T cdv A outer s H E hr _ rfl)
   (iW (kG (lu kz (pv 11) (pC T.iK (jF T) hr (gP (pv 0) (gP hJ g_))) (λ _ _=>rfl)))))))))))))))))),?_⟩
  exact Hk hg iw hp q
end
end K01
namespace L2
open PySem PySem.Spec PyProof.Rows Zp Qs
theorem rg (k:Int){x y z:Dt}(hx:okW x=Rm)(hy:kdB y=Rm)(hz:kdB z=Rm):mD [.int k,x,y,z]=My (sdX (me k x y z)):=ai ⟨hx,hy,hz⟩
theorem Good.OE {w:Web}(g:Good w){a:Nat}(ha:a<w.1):nrL w a=nb w.2 a:=by
 have p:(nrL w a).Perm (nb w.2 a):=(fJ (cM.filter _) (g.C7 a)).mpr λ x=>g.tP;have s1:((nrL w a).map λ(k:Nat)=>(k:Int)).Pairwise (·<=·):=by rw[bp];refine dY _ ?_;exact(dO (n:=w.1)).imp λ h=>by lia
 have e:=(p.map λ(k:Nat)=>(k:Int)).eq_of_pairwise (λ _ _ _ _ h1 h2=>Int.le_antisymm h1 h2) s1 (by rw[<-FP];exact oD _);have:((nrL w a).map λ(k:Nat)=>(k:Int)).map Int.toNat=((nb w.2 a).map λ(k:Nat)=>(k:Int)).map Int.toNat:=by rw[e]
 rw[bq,bq]at this;have e:(Int.toNat∘λ(k:Nat)=>(k:Int))=id:=by funext k;simp
 rw[e,cT,cT]at this;exact this
def Hl (x y z:Dt):Dt:=.lst [sdX (me 0 x y z),sdX (me 1 x y z)]
theorem JG {x:Dt}(h:ju x=Rn)(y z:Dt):Hl x y z=.lst (Rp 2 (.str "web")):=by
 have e:xW x=.error "NoWeb":=by
  rw[zh]at h;unfold xW;cases d:dW x with
  | none=>rfl
  | some w=>rw[d]at h;cases h
 have a:me 0 x y z=.error "NoWeb":=by unfold me xWP;rw[ai rfl,e]
 have b:me 1 x y z=.error "NoWeb":=by unfold me wQ xWP;rw[aq (by decide),e]
 unfold Hl;rw[a,b];rfl
def q5:DE->gF RD:=(kM (lq 8 (iU qD (gN (gS 7) gR))) (kM (lq 9 (iq 1 kQ (gN (gS 7) gR))) (kM (lq 10 (iq 1 i8 (gN (gS 7) gR))) (kM (oy (nK (j9 (gTr (iU jX (gN (gS 10) (gN (gC (.ty "bool")) gR))))) (nK (gB (hU oA (gS 10) (gS 9))) (gB (hU oA (iU qD (gN (gS 7) gR)) (gS 8))))) (kN (gC (.bl Rn))) kZ) (kM (lq 11 (gLC ["_law_door"] [7,6,4] (nP (gN (gC (.int 2)) gR)) (ggN 0) jU (iq 4 mD (gN (gS 0) (gN (gS 1) (gN (gS 2) (gN (gS 3) gR))))))) (oy (Fl (j9 (gTr (gS 9))) (gB (hU Gn (gS 11) (hU Al (lz (gN (gC (.str "web")) gR)) (gC (.int 2)))))) (kN (gC (.bl Rn))) kZ))))))
theorem OF {x dn:Dt}{a:Nat}(hf:fit x=Rm)(hr:qw x=Rm)(hd:kdB dn=Rm)(x0 x1 x2 x3 x5 x8 x9 x10 x11 x12 x13 x14:gF Dt):q5 [x0,x1,x2,x3,My (gO a),x5,My dn,My x,x8,x9,x10,x11,x12,x13,x14]=My (.nx [x0,x1,x2,x3,My (gO a),x5,My dn,My x,My (.str (rpS x)),My (.bl (ju x)),My (.bl (ju x)),My (Hl x dn (gO a)),x12,x13,x14]):=by
 have hx:okW x=Rm/\shW x=Rm:=by unfold fit at hf;rw[aU,aU]at hf;exact⟨hf.1,hf.2.1⟩
 have rp:=zE hr;have lw:=MB hx.1 hx.2;have iw:i8 [x]=My (.bl (ju x)):=ai hx.1;have s0:=rg 0 hx.1 hd (show kdB (gO a)=Rm from rfl);have s1:=rg 1 hx.1 hd (show kdB (gO a)=Rm from rfl);have n2:=zD (rpS x);have is:∀ b:Bool,jX [.bl b,.ty "bool"]=My (.bl Rm):=λ b=>rfl;have n1:∀ b:Bool,oA (.bl b) (.bl b)=My (.bl Rn):=λ b=>by cases b<;>rfl
 have no:=JG (x:=x) (y:=dn) (z:=gO a);have rep:Al (.lst [.str "web"]) (.int 2)=My (.lst (Rp 2 (.str "web"))):=rfl;have n3:Gn (.lst (Rp 2 (.str "web"))) (.lst (Rp 2 (.str "web")))=My (.bl Rn):=rfl;unfold Hl at *;generalize Dt.lst (Rp 2 (.str "web"))=ww,gO a=aa,ju x=b,rpS x=rs,sdX (me 1 x dn (gO a))=r1,sdX (me 0 x dn (gO a))=r0 at *;have lc:gLC ["_law_door"] [7,6,4] (nP (gN (gC (.int 2)) gR)) (ggN 0) jU (iq 4 mD (gN (gS 0) (gN (gS 1) (gN (gS 2) (gN (gS 3) gR))))) [x0,x1,x2,x3,My aa,x5,My dn,My x,My (.str rs),My (.bl b),My (.bl b),x11,x12,x13,x14]=My (.lst [r0,r1]):=by have e:nP (gN (gC (.int 2)) gR) [x0,x1,x2,x3,My aa,x5,My dn,My x,My (.str rs),My (.bl b),My (.bl b),x11,x12,x13,x14]=My [.int 0,.int 1]:=rfl;unfold gLC;rw[e];simp[qP,o7,s0,s1,jU,ggN]
 have st:lq 11 (gLC ["_law_door"] [7,6,4] (nP (gN (gC (.int 2)) gR)) (ggN 0) jU (iq 4 mD (gN (gS 0) (gN (gS 1) (gN (gS 2) (gN (gS 3) gR)))))) [x0,x1,x2,x3,My aa,x5,My dn,My x,My (.str rs),My (.bl b),My (.bl b),x11,x12,x13,x14]=My (.nx [x0,x1,x2,x3,My aa,x5,My dn,My x,My (.str rs),My (.bl b),My (.bl b),My (.lst [r0,r1]),x12,x13,x14]):=by unfold lq;rw[lc];rfl
 have t1:lq 8 (iU qD (gN (gS 7) gR)) [x0,x1,x2,x3,My aa,x5,My dn,My x,x8,x9,x10,x11,x12,x13,x14]=My (.nx [x0,x1,x2,x3,My aa,x5,My dn,My x,My (.str rs),x9,x10,x11,x12,x13,x14]):=by simp[rp]
 have t2:lq 9 (iq 1 kQ (gN (gS 7) gR)) [x0,x1,x2,x3,My aa,x5,My dn,My x,My (.str rs),x9,x10,x11,x12,x13,x14]=My (.nx [x0,x1,x2,x3,My aa,x5,My dn,My x,My (.str rs),My (.bl b),x10,x11,x12,x13,x14]):=by simp[lw]
 have t3:lq 10 (iq 1 i8 (gN (gS 7) gR)) [x0,x1,x2,x3,My aa,x5,My dn,My x,My (.str rs),My (.bl b),x10,x11,x12,x13,x14]=My (.nx [x0,x1,x2,x3,My aa,x5,My dn,My x,My (.str rs),My (.bl b),My (.bl b),x11,x12,x13,x14]):=by simp[iw]
 have t4:oy (nK (j9 (gTr (iU jX (gN (gS 10) (gN (gC (.ty "bool")) gR))))) (nK (gB (hU oA (gS 10) (gS 9))) (gB (hU oA (iU qD (gN (gS 7) gR)) (gS 8))))) (kN (gC (.bl Rn))) kZ [x0,x1,x2,x3,My aa,x5,My dn,My x,My (.str rs),My (.bl b),My (.bl b),x11,x12,x13,x14]=My (.nx [x0,x1,x2,x3,My aa,x5,My dn,My x,My (.str rs),My (.bl b),My (.bl b),x11,x12,x13,x14]):=by simp[is,n1,rp,n2]
 unfold q5;rw[jY t1,jY t2,jY t3,jY t4,jY st];cases b with
 | true=>simp
 | false =>rw[no rfl];simp[rep,n3]
theorem Hm {dn:Dt}{a:Nat}(hd:kdB dn=Rm)(x0 x1 x2 x3 x5 x12 x13 x14:gF Dt):∀ (ds:List Dt),(∀ x∈ds,fit x=Rm/\qw x=Rm)->∀ x7 x8 x9 x10 x11,∃ y7 y8 y9 y10 y11,my (ggN 7) q5 [x0,x1,x2,x3,My (gO a),x5,My dn,x7,x8,x9,x10,x11,x12,x13,x14] ds=My (.nx [x0,x1,x2,x3,My (gO a),x5,My dn,y7,y8,y9,y10,y11,x12,x13,x14])
 | [],_,x7,x8,x9,x10,x11=>⟨x7,x8,x9,x10,x11,rfl⟩
 | d::r,h,x7,x8,x9,x10,x11=>by obtain⟨f,p⟩:=h d ay;have e:=OF (a:=a) f p hd x0 x1 x2 x3 x5 x8 x9 x10 x11 x12 x13 x14;obtain⟨y7,y8,y9,y10,y11,e2⟩:=Hm hd x0 x1 x2 x3 x5 x12 x13 x14 r (λ x hx=>h x (aw _ hx)) (My d) (My (.str (rpS d))) (My (.bl (ju d))) (My (.bl (ju d))) (My (Hl d dn (gO a)));refine⟨y7,y8,y9,y10,y11,?_⟩;rw[<-e2];generalize q5=f at *;simp[my,ggN,e]
def q6b:DE->gF RD:=(kM (lq 13 (lz (gN (iU oB (gN (iq 2 kh (gN (gS 3) (gN (gS 4) gR))) gR)) (gN (hU dIx (iq 2 oZ (gN (gS 3) (gN (gS 4) gR))) (gS 5)) gR)))) (oy (gB (hU oA (iU qD (gN (gLC ["_law_door"] [3,4,5] (nP (gN (gC (.int 2)) gR)) (ggN 0) jU (iq 4 mD (gN (gS 0) (gN (gS 1) (gN (gS 2) (gN (gS 3) gR)))))) gR)) (iU qD (gN (gS 13) gR)))) (kN (gC (.bl Rn))) kZ))
def q6:DE->gF RD:=(BQ (nP (gN (gC (.int 2)) gR)) (ggN 12) q6b)
def q7:DE->gF RD:=(lq 8 (iU qD (gN (gS 6) gR)))
def q8:DE->gF RD:=(lq 11 (lz (gN (iq 4 mD (gN (gC (.int 0)) (gN (gS 3) (gN (gS 6) (gN (gS 4) gR))))) (gN (iq 4 mD (gN (gC (.int 1)) (gN (gS 3) (gN (gS 6) (gN (gS 4) gR))))) (gN (iq 4 mD (gN (gC (.int 1)) (gN (gS 3) (gN (gS 4) (gN (gS 6) gR))))) gR)))))
def q9:DE->gF RD:=(oy (nK (gB (hU Gn (gS 11) (hU Al (lz (gN (gC (.str "place")) gR)) (gC (.int 3))))) (gB (hU oA (iU qD (gN (gS 6) gR)) (gS 8)))) (kN (gC (.bl Rn))) kZ)
section
variable {w:Web}(g:Good w){a b:Nat}(ha:a<w.1)(hb:b<w.1)
include g ha
theorem Good.Qr (z:Dt):me 0 (iP w) (gO a) z=.ok (.tup ((nb w.2 a).map gO)):=by unfold me xWP;rw[ai rfl,v8 g];dsimp only;rw[zi (w:=w) ha];rfl
include hb
theorem Good.Qt:me 1 (iP w) (gO a) (gO b)=.ok (gO (ds w.2 a b)):=by unfold me wQ xWP;rw[aq (by decide),v8 g];dsimp only;rw[zi (w:=w) ha];dsimp only;rw[zi (w:=w) hb];rfl
theorem Good.MR:qw (.lst [.tup ((nb w.2 a).map gO),gO (ds w.2 a b)])=Rm:=by
 have w8:=g.nQ;have d8:=g.Kn ha b hb;have l7:=g.F0 a ha;refine Rb.rp (((Rb.lst 2 (W:=1000) (D:=4) (ds:=[.tup ((nb w.2 a).map gO),gO (ds w.2 a b)]) (λ d hd=>?_) (by simp))).mono);simp only[ax,aN,or_false]at hd;rcases hd with rfl | rfl
 ·refine(Rb.tup 8 (W:=100) (D:=2) (λ d hd=>?_) (by rw[ah];lia)).mono;obtain⟨u,hu,rfl⟩:=aA.mp hd;exact kK (by have:=(g.nz hu).1;lia)
 ·exact(kK (by lia)).mono
theorem Good.Hn (x0 x1 x2 x6 x7 x8 x9 x10 x11 x12 x13 x14:gF Dt):q6b [x0,x1,x2,My (iP w),My (gO a),My (gO b),x6,x7,x8,x9,x10,x11,x12,x13,x14]=My (.nx [x0,x1,x2,My (iP w),My (gO a),My (gO b),x6,x7,x8,x9,x10,x11,x12,My (.lst [.tup ((nb w.2 a).map gO),gO (ds w.2 a b)]),x14]):=by
 have s0:=rg 0 g.sR (show kdB (gO a)=Rm from rfl) (show kdB (gO b)=Rm from rfl);have s1:=rg 1 g.sR (show kdB (gO a)=Rm from rfl) (show kdB (gO b)=Rm from rfl);rw[g.Qr ha]at s0;rw[g.Qt ha hb]at s1;have s0:mD [.int 0,iP w,gO a,gO b]=My (.tup ((nb w.2 a).map gO)):=s0;have s1:mD [.int 1,iP w,gO a,gO b]=My (gO (ds w.2 a b)):=s1;have nr:kh [iP w,gO a]=My (.lst ((nb w.2 a).map gO)):=by rw[<-g.OE ha];show(dW (iP w)).bind (λ w=>(lY (gO a)).map λ p=>Dt.lst (((Ro w.1).filter λ o=>decide (uF p o∈w.2)).map gO))=_;rw[qS g,jW];rfl
 have fr:oZ [iP w,gO a]=My (.lst ((Ro w.1).map λ i=>gO (ds w.2 a i))):=by show(dW (iP w)).bind (λ w=>(lY (gO a)).bind λ b=>if b<w.1 then My (Dt.lst ((Ro w.1).map λ i=>gO (ds w.2 b i))) else Rl)=_;rw[qS g,jW,aB,aB,ai ha]
 have ix:dIx (.lst ((Ro w.1).map λ i=>gO (ds w.2 a i))) (gO b)=My (gO (ds w.2 a b)):=by show atI ((Ro w.1).map λ i=>gO (ds w.2 a i)) (b:Int)=_;refine lR ?_;rw[aJ,cP hb];rfl
 have rp:=zE (g.MR ha hb);have ne:=zD (rpS (.lst [.tup ((nb w.2 a).map gO),gO (ds w.2 a b)]));generalize gO b=bb,gO a=aa,iP w=ww,gO (ds w.2 a b)=dd,(nb w.2 a).map gO=nn,Dt.lst ((Ro w.1).map λ i=>gO (ds w.2 a i))=fl,rpS (.lst [.tup ((nb w.2 a).map gO),gO (ds w.2 a b)])=rs at *;have lc:gLC ["_law_door"] [3,4,5] (nP (gN (gC (.int 2)) gR)) (ggN 0) jU (iq 4 mD (gN (gS 0) (gN (gS 1) (gN (gS 2) (gN (gS 3) gR))))) [x0,x1,x2,My ww,My aa,My bb,x6,x7,x8,x9,x10,x11,x12,My (.lst [.tup nn,dd]),x14]=My (.lst [.tup nn,dd]):=by have e:nP (gN (gC (.int 2)) gR) [x0,x1,x2,My ww,My aa,My bb,x6,x7,x8,x9,x10,x11,x12,My (.lst [.tup nn,dd]),x14]=My [.int 0,.int 1]:=rfl;unfold gLC;rw[e];simp[qP,o7,s0,s1,jU,ggN]
 have st:lq 13 (lz (gN (iU oB (gN (iq 2 kh (gN (gS 3) (gN (gS 4) gR))) gR)) (gN (hU dIx (iq 2 oZ (gN (gS 3) (gN (gS 4) gR))) (gS 5)) gR))) [x0,x1,x2,My ww,My aa,My bb,x6,x7,x8,x9,x10,x11,x12,x13,x14]=My (.nx [x0,x1,x2,My ww,My aa,My bb,x6,x7,x8,x9,x10,x11,x12,My (.lst [.tup nn,dd]),x14]):=by simp[nr,fr,ix]
 unfold q6b;rw[jY st];generalize gLC ["_law_door"] [3,4,5] (nP (gN (gC (.int 2)) gR)) (ggN 0) jU (iq 4 mD (gN (gS 0) (gN (gS 1) (gN (gS 2) (gN (gS 3) gR)))))=G at *;simp[lc,rp,ne]
theorem Good.OG (x0 x1 x2 x6 x7 x8 x9 x10 x11 x12 x13 x14:gF Dt):∃ y12 y13,q6 [x0,x1,x2,My (iP w),My (gO a),My (gO b),x6,x7,x8,x9,x10,x11,x12,x13,x14]=My (.nx [x0,x1,x2,My (iP w),My (gO a),My (gO b),x6,x7,x8,x9,x10,x11,y12,y13,x14]):=by have e1:=g.Hn ha hb x0 x1 x2 x6 x7 x8 x9 x10 x11 (My (.int 0)) x13 x14;have e2:=g.Hn ha hb x0 x1 x2 x6 x7 x8 x9 x10 x11 (My (.int 1)) (My (.lst [.tup ((nb w.2 a).map gO),gO (ds w.2 a b)])) x14;refine⟨My (.int 1),My (.lst [.tup ((nb w.2 a).map gO),gO (ds w.2 a b)]),?_⟩;show my (ggN 12) q6b _ [.int 0,.int 1]=_;generalize q6b=f,gO b=bb,gO a=aa,iP w=ww,Dt.lst [.tup ((nb w.2 a).map gO),gO (ds w.2 a b)]=ll at *;simp[my,ggN,e1,e2]
end
theorem Good.MS {w:Web}(g:Good w){a:Nat}(ha:a<w.1){dn:Dt}(pl:mG w.1 dn=Rn)(kd:kdB dn=Rm)(hr:qw dn=Rm)(x0 x1 x2 x5 x7 x8 x9 x10 x11 x12 x13 x14:gF Dt):∃ y8 y11,kM q7 (kM q8 q9) [x0,x1,x2,My (iP w),My (gO a),x5,My dn,x7,x8,x9,x10,x11,x12,x13,x14]=My (.nx [x0,x1,x2,My (iP w),My (gO a),x5,My dn,x7,y8,x9,x10,y11,x12,x13,x14]):=by
 have no:=NR pl;have s0:=rg 0 g.sR kd (show kdB (gO a)=Rm from rfl);have s1:=rg 1 g.sR kd (show kdB (gO a)=Rm from rfl);have s2:=rg 1 g.sR (show kdB (gO a)=Rm from rfl) kd;have t0:me 0 (iP w) dn (gO a)=.error "NoPlace":=by unfold me xWP;rw[ai rfl,v8 g];dsimp only;rw[no]
 have t1:me 1 (iP w) dn (gO a)=.error "NoPlace":=by unfold me wQ xWP;rw[aq (by decide),v8 g];dsimp only;rw[no]
 have t2:me 1 (iP w) (gO a) dn=.error "NoPlace":=by unfold me wQ xWP;rw[aq (by decide),v8 g];dsimp only;rw[zi (w:=w) ha];dsimp only;rw[no]
 rw[t0]at s0;rw[t1]at s1;rw[t2]at s2;have s0:mD [.int 0,iP w,dn,gO a]=My (.str "place"):=s0;have s1:mD [.int 1,iP w,dn,gO a]=My (.str "place"):=s1;have s2:mD [.int 1,iP w,gO a,dn]=My (.str "place"):=s2;have rp:=zE hr;have ne:=zD (rpS dn);have rep:Al (.lst [.str "place"]) (.int 3)=My (.lst [.str "place",.str "place",.str "place"]):=rfl;have n3:Gn (.lst [.str "place",.str "place",.str "place"]) (.lst [.str "place",.str "place",.str "place"])=My (.bl Rn):=rfl;refine⟨My (.str (rpS dn)),My (.lst [.str "place",.str "place",.str "place"]),?_⟩;generalize gO a=aa,iP w=ww,rpS dn=rs at *;have u7:q7 [x0,x1,x2,My ww,My aa,x5,My dn,x7,x8,x9,x10,x11,x12,x13,x14]=My (.nx [x0,x1,x2,My ww,My aa,x5,My dn,x7,My (.str rs),x9,x10,x11,x12,x13,x14]):=by simp[q7,rp]
 have u8:q8 [x0,x1,x2,My ww,My aa,x5,My dn,x7,My (.str rs),x9,x10,x11,x12,x13,x14]=My (.nx [x0,x1,x2,My ww,My aa,x5,My dn,x7,My (.str rs),x9,x10,My (.lst [.str "place",.str "place",.str "place"]),x12,x13,x14]):=by simp[q8,s0,s1,s2]
 rw[jY u7,jY u8];generalize Dt.lst [.str "place",.str "place",.str "place"]=ll at *;simp[q9,rp,ne,rep,n3]
end L2
namespace L2
open PySem PySem.Spec PyProof.Rows Zp
section
variable {X:Cx}{k v:Expr}{pos:Pos}{tk tv:TE}
def zG (tk tv:TE):TE:=λ σ H Q=>∀ p,H p=Rl->tk σ (upd H p (.dT [])) λ x H1=>tv σ H1 λ y H2=>H2 p=My (.dT [])/\∃ ks b,x=.ref b/\H2 b=My (.tup (ks.map kV))/\Q (.ref p) (upd H2 p (.dT (putK [] ks y)))
theorem Ho (hu:X.A.units+1<cLine)(hk:PE X k tk)(hv:PE X v tv):PE X (.Dict [My k] [v] pos) (zG tk tv):=by
 intro pins s σ H Q I q;have hn:=I.hok.fresh (ar s.heap.objs.size);have I1:=I.laid (a:=s.heap.objs.size) (o:=.dT []) (h':=s.heap.push {cls:=.type "dict",data:=.dict #[]}) (t':=s.toks) (λ _ _ q=>ag _ q) (ar _) (EU s.heap I.big);refine wpAny_Dict_any rfl rfl (by simp) (by simp) (pairTrees_cons_walk (thn (hk pins _ σ _ _ I1 (q _ hn)) λ u s1 ⟨x,H1,I2,rx,q1⟩=>thn (hv pins s1 σ H1 _ I2 q1) λ u2 s2 ⟨y,H2,I3,ry,e,ks,b,ex,eb,q2⟩=>pairTrees_nil_walk ?_));subst ex;cases (show u=Value.ref b from rx);obtain⟨z,hd,xs,rel,dd⟩:=J0 I3.hok e;have hz:xs.length<=sizeLine:=by rw[<-ef rel];exact z
 have hl:(putK ([]:List (List Key×V)) ks y).length<=sizeLine:=by have:=ng ([]:List (List Key×V)) ks y;rw[sizeLine_eq];rw[dQ]at this;lia
 unfold storeAll;rw[dR];refine ae (ae (wpAny_dictSet_heap (hsz:=hz) (show(tupleKind (jC X.prog X.w)).room X.A from fS hu) (vj I3.hok eb) dd λ h' dd' hs=>?_));refine af ?_;dsimp only;rw[eU];refine af ?_;refine⟨.ref s.heap.objs.size,_,?_,rfl,q2⟩;obtain⟨q,es,ep,hq,h2,h3,h4,_,h5⟩:=dd';refine uN I3 (by rw[e];exact True.intro) hs ⟨q,hq⟩ ⟨hl,hd,_,(rel.put ks eb ry).keeps λ c ys ec=>?_,q,es,ep,hq,h2,h3,h4,h5⟩;rw[g9 (JS ec e (λ z=>nomatch z))];exact ec
end
section
variable {X:Cx}
def KG:List V->Hp->VK->Prop:=λ xs H Q=>∃ a kvs,xs=[.ref a,.ty "tuple"]/\H a=My (.dT kvs)/\Q (.bl Rn) H
theorem MT:jq X (.builtin "isinstance") KG:=by intro pins s σ H xs us Q I rs hz;obtain⟨a,kvs,rfl,ha,q⟩:=hz;obtain⟨u,u',rfl,r1,r2⟩:=vals2 rs;cases r2;cases r1;obtain⟨_,_,xs,_,o,es,ep,ho,hc,_⟩:=(show jm X.prog X.w H s.heap a (.dT kvs) from I.hok a _ ha);exact gn PySem.W.kitx_dict I.kIn ⟨o,ho,hc.1⟩ (De X.K (T:="tuple") (by decide)) (λ z=>nomatch z) λ tk=>⟨.bl _,H,I.tok _,rfl,q⟩
end
section
variable {X:Cx}{e:Expr}{pos:Pos}{tg iter:Expr}{g:TG}{gg:Dt->DE->gF DE}{gs:DE->gF RD}
theorem PE.up {t:TE}(h:PE X e t):PE X e (λ σ H Q=>∃ Q1:VK,t σ H Q1/\∀ x H1,Q1 x H1->Q x H1):=λ pins s σ H Q I hz=>by obtain⟨Q1,h1,w⟩:=hz;exact thn (h pins s σ H Q1 I h1) λ v s1 ⟨x,H1,I1,r1,q1⟩=>⟨x,H1,I1,r1,w x H1 q1⟩
theorem MU {K:gG}{H:Hp}{a:Addr}{xs:List V}{ds:List Dt}(hq:H a=My (.lst xs))(is:Iss K H xs ds):Lx K (Itl K a) H ds:=λ H2 s2=>⟨λ i d hd=>by obtain⟨v,hv,iv⟩:=is.get hd;refine⟨⟨xs,v,s2.seq (SqL.of hq),hv⟩,λ x H3 hz4=>?_⟩;obtain⟨e3,y⟩:=hz4;subst e3;have:=y xs (s2.seq (SqL.of hq));rw[hv]at this;cases this;exact⟨gY.refl _,iv.ext s2⟩,⟨xs,s2.seq (SqL.of hq),by rw[is.length];exact ar _⟩⟩
def Hq (K:gG)(tl:TE)(gg:Dt->DE->gF DE)(gs:DE->gF RD):TS:=λ D σ H=>tl σ H λ v H1=>∃ ds δ r,Is K H1 v (.lst ds)/\Sat K H1 σ δ/\my gg gs δ ds=My r/\∀ H2,gY H1 H2->Nt K D H2 r
theorem JH {body:List Stmt}{tl:TE}(hp:PassesOwn (model X.prog X.w) X.A X.env X.xe)(hc:X.calm=Rm)(hl:PE X iter tl)(hg:PG X tg g)(hgd:GD X.K g gg)(hb:yS X body gs)
  (hs:∀ x,foldedSetIterable iter X.env x=pure x:=by intro _;rfl):PS X (.For tg iter body [] pos) (Hq X.K tl gg gs):=(mQ hp hc (rq (PE.up hl)) hg hb hs).of λ D σ H hz8=>by
 refine⟨_,hz8,λ v H1 hz=>?_⟩;obtain⟨ds,δ,r,iv,S,e,q⟩:=hz;obtain⟨a,xs,rfl,hq,is⟩:=iv.lst_inv;refine⟨a,rfl,⟨xs,SqL.of hq⟩,?_⟩;have ok:=MU hq is;refine⟨λ i m σ' H'=>m=ds.length-i/\i<=ds.length/\gY H1 H'/\∃ δ',Sat X.K H' σ' δ'/\my gg gs δ' (ds.drop i)=My r,⟨_,rfl,aQ _,gY.refl _,δ,S,by simpa using e⟩,?_⟩;rintro i m σ' H' ⟨rfl,hi,s2,δ',S',e3⟩;obtain⟨items,stop⟩:=ok H' s2;by_cases hlt:i<ds.length
 ·right
  have hdi:ds[i]?=My ds[i]:=by simp[hlt]
  obtain⟨go,yld⟩:=items i _ hdi;rw[cJ hlt]at e3;obtain⟨δ1,f1,e3⟩:=gQ (show(gg ds[i] δ').bind _=_ from e3);obtain⟨x,f2,e3⟩:=gQ e3;refine⟨go,λ σ2 H2=>∃ δ2,x=.nx δ2/\gY H1 H2/\Sat X.K H2 σ2 δ2,?_,λ v H'' hyl=>?_⟩
  ·rintro σ2 H2 ⟨δ2,rfl,s5,S5⟩;exact⟨_,by lia,rfl,hlt,s5,δ2,S5,e3⟩
  ·obtain⟨s3,iv⟩:=yld v H'' hyl
   refine hgd H'' v ds[i] σ' δ' δ1 _ iv (S'.ext s3) f1 λ σ2 S2=>⟨δ1,x,S2,f2,λ H3 s4=>?_⟩;cases x with
   | nx δ2=>exact λ σ3 S3=>⟨δ2,rfl,(s2.trans s3).trans s4,S3⟩
   | rt d=>cases e3;exact q H3 ((s2.trans s3).trans s4)
 ·left
  have hi:i=ds.length:=by lia
  subst hi;rw[fe]at e3;cases e3;exact⟨stop,q H' s2 σ' S'⟩
set_option tactic.hygienic true in
theorem JI {K:gG}{own:List Str}{ix:List Nat}{gi:DE->gF (List Dt)}{gt:DE->gF Bool}{ge:DE->gF Dt}{Z:Hp->Prop}{te:TE}(hZ:∀ {H H'},gY H H'->Z H->Z H')(hgd:GD K g gg)
  (hte:∀ (σ:St) (H:Hp) (Q:VK) (δ:DE) (d:Dt),Z H->Sat K H σ δ->ge δ=My d->(∀ v H',gY H H'->Is K H' v d->Q v H')->te σ H Q) (σ:St) (H:Hp) (Q:VK) (z:Z H) (h:tD K (gLC own ix gi gg gt ge) σ H Q):tLC own ix (iD K gi) g (tDT K gt) te σ H Q:=by
 obtain⟨δ,d,S,e,q⟩:=h;obtain⟨ds,e1,e⟩:=gQ e;split at e
 ·rename_i hlen
  obtain⟨rs,e2,e⟩:=ir e;subst e;refine⟨δ,ds,S,e1,λ J H1 s1 ok=>?_⟩;refine⟨λ i m ys H'=>m=ds.length-i/\i<=ds.length/\gY H1 H'/\ys.length<=i/\∃ us vs,Iss K H' ys us/\qP gg gt ge (o7 own ix δ) (ds.drop i)=My vs/\us++vs=rs,⟨_,rfl,aQ _,gY.refl _,ar _,[],rs,.nil,by simpa using e2,rfl⟩,?_⟩;rintro i m ys H' ⟨rfl,hi,s2,hy,us,vs,is,e3,e4⟩;obtain⟨items,stop⟩:=ok H' s2;by_cases hlt:i<ds.length
  ·right
   have hdi:ds[i]?=My ds[i]:=by simp[hlt]
   obtain⟨go,yld⟩:=items i _ hdi;refine⟨go,by have:=qL;rw[sizeLine_eq];lia,λ x H'' hyl=>?_⟩;obtain⟨s3,ix3⟩:=yld x H'' hyl;rw[cJ hlt]at e3;obtain⟨δ',f1,e3⟩:=gQ (show(gg ds[i] (o7 own ix δ)).bind _=_ from e3);obtain⟨k,f2,e3⟩:=gQ e3;have S':Sat K H'' (jQ own ix σ) (o7 own ix δ):=(S.ext ((s1.trans s2).trans s3)).comp;refine hgd H'' x ds[i] _ _ δ' _ ix3 S' f1 λ σ' Sσ=>⟨δ',k,Sσ,f2,λ H3 s4=>?_⟩;cases k with
   | true =>rw[ai rfl]at e3 ⊢;obtain⟨y,f3,e3⟩:=gQ e3;obtain⟨r,f4,e3⟩:=ir e3;subst e3;exact hte _ _ _ δ' y (hZ (((s1.trans s2).trans s3).trans s4) z) (Sσ.ext s4) f3 λ v H4 s5 iv=>⟨ds.length-(i+1),by lia,rfl,hlt,((s2.trans s3).trans s4).trans s5,by simp;lia,us++[y],r,(is.ext ((s3.trans s4).trans s5)).snoc iv,f4,by rw[<-e4];simp⟩
   | false =>rw[aq au]at e3 ⊢;exact⟨ds.length-(i+1),by lia,rfl,hlt,(s2.trans s3).trans s4,by lia,us,vs,is.ext (s3.trans s4),e3,e4⟩
  ·left
   have hi:i=ds.length:=by lia
   subst hi;rw[fe]at e3;cases e3;rw[bt]at e4;subst e4;exact⟨stop,λ p hp=>q _ _ ((s1.trans s2).trans (gY.upd hp)) (.lst gW (is.ext (gY.upd hp)))⟩
 ·cases e
end
open Qs
def w0:DE->gF RD:=(oy (nK (j9 (gTr (iU jX (gN (gS 0) (gN (gC (.ty "tuple")) gR))))) (gB (hU oA (iU qv (gN (gS 0) gR)) (gC (.int 2))))) (kN (gC (.bl Rn))) kZ)
def w2:DE->gF RD:=(oy (nK (j9 (gTr (iq 1 jO (gN (gS 1) gR)))) (j9 (gB (pK (dIB λ i j=>decide (i<=j)) (dIB λ i j=>decide (i<=j)) (gC (.int 2)) (gS 1) (gC (.int 8)))))) (kN (gC (.bl Rn))) kZ)
def w3:DE->gF Bool:=(j9 (gTr (iU uC (gN (gLC ["tie"] [1] (gI k_ (gS 2)) (ggN 0) jU (iq 2 lP (gN (gS 1) (gN (gS 0) gR)))) gR))))
def w4:DE->gF RD:=(kN (yM (iq 1 lE (gN (gS 2) gR)) (hU rP (iU Ao (gN (iq 2 kg (gN (gS 2) (gN (gC (.int 0)) gR))) gR)) (gS 1))))
theorem OH (v:V):w0 [My (.tup [.int 2,.opq v]),Rl,Rl]=My (.nx [My (.tup [.int 2,.opq v]),Rl,Rl]):=rfl
theorem OI (v:V):Ai (nM 1 2) (gS 0) [My (.tup [.int 2,.opq v]),Rl,Rl]=My (.nx [My (.tup [.int 2,.opq v]),My (.int 2),My (.opq v)]):=rfl
theorem OJ (v:V):w2 [My (.tup [.int 2,.opq v]),My (.int 2),My (.opq v)]=My (.nx [My (.tup [.int 2,.opq v]),My (.int 2),My (.opq v)]):=rfl
end L2
namespace K01
open PySem PySem.Spec PyProof.Rows L2 Zp
section
variable {P:Program}{w:World}{K:gG}{mg:gD}{base:Heap}
def OK (K:gG):Sp:=λ vs H Q _=>∃ (r a:Addr) (kvs:List (List Key×V)),vs=[.ref r]/\SqT K H r [.int 2,.ref a]/\H a=My (.dT kvs)/\∀ H',gY H H'->Q (.bl Rn) H'
def tWT (K:gG):TS:=jh (tDS K w0) (jh (tDS K (Ai (nM 1 2) (gS 0))) (jh (tDS K w2) (jh (Bg (tOr (M6 (tB (tCB KG (gX (hX 2) (gX (tD K (gC (.ty "tuple"))) iA))))) (tDT K w3)) (wZ (tC (.bl Rn))) xB) (tDS K w4))))
theorem wV (T:Txt K mg):OkT P w base T.j4 4 (OK K):=by
 refine T.j4.F.ok yj (λ vs H Q E h=>?_) (λ cdv A outer s H vs Q E hr h=>?_)
 ·obtain⟨r,a,kvs,rfl,_⟩:=h;rfl
 ·obtain⟨r,a,kvs,rfl,hS,ha,q⟩:=h
  refine⟨tWT K,g0 (mw (tK (mr (jD (j7 (iG ml T.hG boot_isinstance (gM (dv 0) (gM (tJ T.kD boot_tuple) gT))))) (mh (jn (xh (h_ hr)) (iG An T.pZ cz (gM (dv 0) gT)) ie)))) (iH (jb m_)) jr) (g0 (yT (dv 0) (nZ rfl (je (pgo 1) (je (pgo 2) mE))) ni)
   (g0 (mw (tK (mr (jD (j7 (dC T.mZ (oR T) hr (gM (dv 1) gT)))) (mh (jD (vH Aj Aj (dG T.o9) (dv 1) (dG T.qH)))))) (iH (jb m_)) jr)
   (g0 (qy (PW.pt (Cp (Bf (Ez (jH MT rfl T.hG boot_isinstance (gP (pv 2) (gP (tJ T.kD boot_tuple) g_))))) (yq (jD (j7 (iG (Ar rfl) T.A2 boot_all (gM (yR rfl (csc ["tie"] ["many"] [1]) (oC (dv 2)) (λ _ _ _ _=>(pgo 0)) jI kB (λ _ _ _ _=>ox) (λ _ _ _ _=>(dC T.sM (wI T) hr (gM (dv 1) (gM (dv 0) gT))))) gT))))))) (iW (kG tZ)) lQ)
   (iH (jb (ug (dC T.nC (sN T) hr (gM (dv 2) gT)) (vI (vG (FA (h_ hr)) (iG FN T.pZ cz (gM (dC T.ma (oX T) hr (gM (dv 2) (gM ie gT))) gT)) (dv 1))))))))),?_⟩
  have i0:Is K H (.ref r) (.tup [.int 2,.opq (.ref a)]):=.tup hS (.cons (.int _) (.cons (.opq _) .nil));refine⟨_,_,stS i0 (L2.stN (L2.stN L2.stE)),OH _,λ H1 s1 σ1 S1=>⟨_,_,S1,OI _,λ H2 s2 σ2 S2=>⟨_,_,S2,OJ _,λ H3 s3 σ3 S3=>?_⟩⟩⟩;obtain⟨v2,e2,i2⟩:=S3.at_ 2 _ rfl;rw[i2.qf]at e2;have s:=(s1.trans s2).trans s3;refine⟨_,e2,_,_,S3,rfl,λ v H4 s4 i4=>?_⟩;have:=i4.BO;subst this;refine⟨a,kvs,rfl,(s.trans s4) _ _ ha,Rn,rfl,?_⟩;refine By ?_;exact By (q _ (s.trans s4))
def spU (K:gG):Sp:=λ vs H Q E=>spD K 1 i8 vs H Q E\/OK K vs H Q E
theorem Cm (T:Txt K mg):OkT P w base T.j4 4 (spU K) :=
 ⟨λ vs H Q E h=>h.elim ((kq (P:=P) (w:=w) (base:=base) T).len vs H Q E) ((wV (P:=P) (w:=w) (base:=base) T).len vs H Q E),λ A outer s H args us vs Q E hr he hb hv hs=>hs.elim ((kq T).run A outer s H args us vs Q E hr he hb hv) ((wV T).run A outer s H args us vs Q E hr he hb hv)⟩
end
end K01
namespace K02
open PySem PySem.Spec PyProof.Rows L2 Zp
section
variable {P:Program}{w:World}{K:gG}{mg:gD}{base:Heap}
def Qu:Stmt->List Stmt
 | .For _ _ b _ _=>b
 | _=>[]
end
end K02
namespace L2
open PySem PySem.Spec PyProof.Rows Zp Qs PySem.SeqAt
section
variable {X:Cx}
def MV (x y:Dt):gF Dt:=(qR x).bind λ a=>(qR y).bind λ b=>if a.length=b.length/\rN a b=Rm then My (.bl (!mi a b)) else Rl
theorem OL (hu:X.A.units+2<cLine):OpR X (compareOp .NotEq) (rD X.K MV):=by
 intro pins s σ H x y v u Q I rx ry hz;obtain⟨d,d',r,i,i',e,q⟩:=hz;obtain⟨a,e1,f1⟩:=gQ e;obtain⟨b,e2,f2⟩:=gQ f1;obtain rfl:=jV e1;obtain rfl:=jV e2;clear e f1 e1 e2;by_cases hl:a.length=b.length/\rN a b=Rm
 ·rw[ai hl]at f2
  cases f2;obtain⟨p,xs,rfl,hp,is⟩:=i.lst_inv;obtain⟨p',ys,rfl,hq,js⟩:=i'.lst_inv;cases rx;cases ry;obtain⟨its,rv,t1,_⟩:=I.list (SqL.of hp);obtain⟨its',rv',t2,_⟩:=I.list (SqL.of hq);have l1:its.length=a.length:=by rw[<-rv.length,is.length]
  have l2:its'.length=b.length:=by rw[<-rv'.length,js.length]
  have hsz:its.toArray.size=its'.toArray.size:=by rw[ao,ao,l1,l2,hl.1]
  have:=RcNeAt.lists (A:=X.A) (s:=s) (l:=p) (b:=p') (items:=its.toArray) (items2:=its'.toArray) (e:=eAt a b) t1.isList t2.isList hsz (by lia) (oz is js rv rv' λ h1 h2 i1 i2 r1 r2=>Ak (pN hl.2 h1 h2) i1 i2 r1 r2);have ea:=mV is js rv rv';rw[hsz,gf,beq_self_eq_true,dB]at ea;rw[hsz,ea]at this;exact this X.prog X.w X.xe _ ⟨.bl _,H,I,rfl,q _ H (gY.refl H) (.bl _)⟩
 ·rw[aq hl]at f2;cases f2
theorem JJ:MV (.lst (Rp 10 (.bl Rn))) (.lst (Rp 10 (.bl Rn)))=My (.bl Rn):=rfl
end
section
variable {X:Cx}{es fs ks':List Expr}{t:TE}{ts:TA}{p:Pos}{j:Nat}{c:Const}{ks:List (gF Expr)}{vs:List Expr}{k v:Expr}{tk tv:TE}
theorem stD {env:Env}:starEach (.Dict ks vs p::es) env=(Rn,eval (.Dict ks vs p) env)::starEach es env:=rfl
theorem zH {c:Const}{n}(h:PE X (.Constant c n p) t)(h2:PA X es ts):PA X (.Constant c n p::es) (gX t ts):=gP h h2 stC
theorem Hr {n}(h:PE X (.Tuple fs n p) t)(h2:PA X es ts):PA X (.Tuple fs n p::es) (gX t ts):=gP h h2 stT
theorem Qv (h:PE X (.List fs p) t)(h2:PA X es ts):PA X (.List fs p::es) (gX t ts):=gP h h2 stL
theorem OM (h:PE X (.Dict ks vs p) t)(h2:PA X es ts):PA X (.Dict ks vs p::es) (gX t ts):=gP h h2 stD
theorem Hs {k0 k1 j}{p0 p1:Pos}:PE X (.Tuple [.Constant (.int 0) k0 p0,.Constant (.int 1) k1 p1] j p) (pg (gX (tC (.int 0)) (gX (tC (.int 1)) iA))):=mf (zH hJ (zH hJ g_))
theorem ON {k0 k1 k2 j}{p0 p1 p2 p3:Pos}(hu:X.A.units+1<cLine):PE X (.Dict [My (.Tuple [.Constant (.int 0) k0 p0,.Constant (.int 1) k1 p1] j p)] [.Constant (.int 1) k2 p2] p3) (zG (pg (gX (tC (.int 0)) (gX (tC (.int 1)) iA))) (tC (.int 1))):=@Ho X _ _ _ _ _ hu Hs hJ
end
def tOd:TE:=ph (gX (tC .non) (gX (tC (.int 7)) (gX (tC (.bl Rm)) (gX (tC (.str "01")) (gX EV (gX (zG (pg (gX (tC (.int 0)) (gX (tC (.int 1)) iA))) (tC (.int 1))) (gX (pg (gX (tC .non) iA)) (gX (pg (gX (tC (.int 7)) iA)) (gX (pg (gX (pg (gX (tC (.int 0)) (gX (tC (.int 1)) iA))) (gX (tC .non) iA))) (gX (ph (gX (pg (gX (tC (.int 0)) (gX (tC (.int 1)) iA))) iA)) iA))))))))))
theorem OO {X:Cx}(hu:X.A.units+1<cLine){k0 k1 k2 k3 k5 k6 k8 k10 k12 k14 k15 k17 k19 k20 j6 j10 j12 j15 j17 j20}{p0 p1 p2 p3 p4 p5 p6 p7 p8 p9 p10 p11 p12 p13 p14 p15 p16 p17 p18 p19 p20 p21 p22 p23:Pos}:PE X (.List [.Constant .none k0 p0,.Constant (.int 7) k1 p1,.Constant (.bool Rm) k2 p2,.Constant (.str "01") k3 p3,.Dict [] [] p4,.Dict [My (.Tuple [.Constant (.int 0) k5 p5,.Constant (.int 1) k6 p6] j6 p7)] [.Constant (.int 1) k8 p8] p9,.Tuple [.Constant .none k10 p10] j10 p11,.Tuple [.Constant (.int 7) k12 p12] j12 p13,.Tuple [.Tuple [.Constant (.int 0) k14 p14,.Constant (.int 1) k15 p15] j15 p16,.Constant .none k17 p17] j17 p18,.List [.Tuple [.Constant (.int 0) k19 p19,.Constant (.int 1) k20 p20] j20 p21] p22] p23) tOd:=by
 unfold tOd;refine @jP X _ _ _ ?_;refine @zH X _ _ _ _ _ _ qK ?_;refine @zH X _ _ _ _ _ _ hJ ?_;refine @zH X _ _ _ _ _ _ tZ ?_;refine @zH X _ _ _ _ _ _ yp ?_;refine @OM X _ _ _ _ _ _ EW ?_;refine @OM X _ _ _ _ _ _ ?_ ?_
 ·exact @ON X _ _ _ _ _ _ _ _ _ hu
 refine @Hr X _ _ _ _ _ _ ?_ ?_
 ·exact @mf X _ _ _ _ (@zH X _ _ _ _ _ _ qK g_)
 refine @Hr X _ _ _ _ _ _ ?_ ?_
 ·exact @mf X _ _ _ _ (@zH X _ _ _ _ _ _ hJ g_)
 refine @Hr X _ _ _ _ _ _ ?_ ?_
 ·exact @mf X _ _ _ _ (@Hr X _ _ _ _ _ _ Hs (@zH X _ _ _ _ _ _ qK g_))
 refine @Qv X _ _ _ _ _ ?_ ?_
 ·exact @jP X _ _ _ (@Hr X _ _ _ _ _ _ Hs g_)
 exact g_
theorem OP {X:Cx}{x:Str}(hu:X.A.units+1<cLine)(hN:X.N.Nodup)(hi:X.N[14]?=My x)(hx:Loc X.env.scope x)(hf:X.fn x=Rm\/X.env.scope.names.lookup x=My .local){k0 k1 k2 k3 k5 k6 k8 k10 k12 k14 k15 k17 k19 k20 j6 j10 j12 j15 j17 j20}{p0 p1 p2 p3 p4 p5 p6 p7 p8 p9 p10 p11 p12 p13 p14 p15 p16 p17 p18 p19 p20 p21 p22 p23:Pos}{pn ps:Pos}:PS X (.Assign [.Name x pn] (.List [.Constant .none k0 p0,.Constant (.int 7) k1 p1,.Constant (.bool Rm) k2 p2,.Constant (.str "01") k3 p3,.Dict [] [] p4,.Dict [My (.Tuple [.Constant (.int 0) k5 p5,.Constant (.int 1) k6 p6] j6 p7)] [.Constant (.int 1) k8 p8] p9,.Tuple [.Constant .none k10 p10] j10 p11,.Tuple [.Constant (.int 7) k12 p12] j12 p13,.Tuple [.Tuple [.Constant (.int 0) k14 p14,.Constant (.int 1) k15 p15] j15 p16,.Constant .none k17 p17] j17 p18,.List [.Tuple [.Constant (.int 0) k19 p19,.Constant (.int 1) k20 p20] j20 p21] p22] p23) ps) (kH tOd (iM 14)):=@iX X _ 14 _ _ _ _ hN hi hx (@OO X hu _ _ _ _ _ _ _ _ _ _ _ _ _ _ _ _ _ _ _ _ _ _ _ _ _ _ _ _ _ _ _ _ _ _ _ _ _ _ _ _ _ _ _ _) Dj hf
end L2
namespace L2
open PySem PySem.Spec PyProof.Rows Zp Qs
def Et:DE->gF RD:=(oy (gB (hU vK (iq 1 i8 (gN (i9 (gN (gC (.int 9)) (gN (iU oB (gN (gLC ["_law_place"] [] (Au (gN (gC (.int 1)) (gN (gC (.int 9)) gR))) (ggN 0) jU (i9 (gN (gC (.int 0)) (gN (gS 0) gR)))) gR)) gR))) gR)) (gC (.bl Rn)))) (kN (gC (.bl Rn))) kZ)
def Eu:DE->gF RD:=(kN (yM (hU BS (iq 1 i8 (gN (i9 (gN (gC (.int 2)) (gN (i9 (gN (i9 (gN (gC (.int 0)) (gN (gC (.int 1)) gR))) gR)) gR))) gR)) (gC (.bl Rm))) (hU BS (iq 1 i8 (gN (i9 (gN (gC (.int 1)) (gN (i9 gR) gR))) gR)) (gC (.bl Rn)))))
def MW:DE->gF Bool:=(gB (hU vK (iq 1 i8 (gN (i9 (gN (gC (.int 4)) (gN (i9 (gN (i9 (gN (gC (.int 0)) (gN (gC (.int 1)) gR))) (gN (i9 (gN (gC (.int 2)) (gN (gC (.int 3)) gR))) gR))) gR))) gR)) (gC (.bl Rn))))
end L2
namespace K01
open PySem PySem.Spec PyProof.Rows L2 Zp
section
variable {P:Program}{w:World}{K:gG}{mg:gD}{base:Heap}
abbrev XL (P:Program)(w:World)(K:gG)(mg:gD)(base:Heap)(T:Txt K mg)(cdv:gH)(A:Around)(outer:List Env)(s:gJ)(H:Hp)(E:XK):Cx:=(pj CX0 P w K mg base ["_law_script","_law_k","_law_pot_here","_law_web_here","_law_a","_law_b","_law_none","_law_thing","_law_kept","_law_good","_law_found","_law_told","_law_lap","_law_due","_law_odd"] "law" (gZ mY) T.uw.f cdv A outer s H E).nox
abbrev xx:List Stmt:=K02.Qu ((iL mY).headD mY)
def tk (K:gG)(j i:Nat):TS:=kH (jo kr [] E0 (gX (hX 2) (gX (tOp (HH K) (hX j) (tC (V.int 0))) iA))) (iM i)
def wb (K:gG)(th:Int)(i:Nat):TS:=kH (jo (Kz K) [] E0 (gX (hX 2) (gX (tC (V.int 8)) (gX (tC (V.int th)) iA)))) (iM i)
def tBn (K:gG):TE:=jo (Hi K) [] E0 (gX (hX 2) (gX (hX 3) iA))
def tLO (K:gG):TE:=tLC ["_law_thing"] [] (L2.iD K (gI k_ (gS 14))) (iM 0) (tDT K jU) (jo (spU K) [] E0 (gX (pg (gX (tC (V.int 2)) (gX (hX 0) iA))) iA))
def JK (K:gG):TS:=Bg (tOr (zP (tOp (rD K MV) (tLO K) (tD K (hU Al (lz (gN (gC (.bl Rn)) gR)) (gC (.int 10)))))) (tDT K MW)) (wZ (tC (.bl Rn))) xB
section
variable (T:Txt K mg)(cdv:gH)(A:Around)(outer:List Env)(s:gJ)(H:Hp)(E:XK)(hr:jt 7 (A.deeper (envOfC "law" (gZ mY) s.heap.objs.size T.uw.f cdv)))
include hr
theorem OQ:∀ st,xx[0]?=My st->PS (XL P w K mg base T cdv A outer s H E) st (kH (jo GX [] E0 (gX (jo (Cg K) [] E0 (gX (hX 0) (gX (hX 1) iA))) iA)) (iM 2)):=by intro st h;obtain rfl:=ak h;exact iX (i:=2) lK.nd rfl (Or.inl rfl) (pC T.qY (Mn T) hr (gP (pC T.m7 (Jc T) hr (gP (pv 0) (gP (pv 1) g_))) g_))
theorem OR:∀ st,xx[1]?=My st->PS (XL P w K mg base T cdv A outer s H E) st (wb K 1 3):=by intro st h;obtain rfl:=ak h;exact iX (i:=3) lK.nd rfl (Or.inr rfl) (pC T.oQ (Mt T) hr (gP (pv 2) (gP hJ (gP hJ g_))))
theorem OS:∀ st,xx[2]?=My st->PS (XL P w K mg base T cdv A outer s H E) st (tk K 3 4):=by intro st h;obtain rfl:=ak h;exact iX (i:=4) lK.nd rfl (Or.inr rfl) (pC T.iK (jF T) hr (gP (pv 2) (gP (lu qM (pv 3) hJ (λ _ _=>rfl)) g_)))
theorem OT:∀ st,xx[3]?=My st->PS (XL P w K mg base T cdv A outer s H E) st (tk K 3 5):=by intro st h;obtain rfl:=ak h;exact iX (i:=5) lK.nd rfl (Or.inr rfl) (pC T.iK (jF T) hr (gP (pv 2) (gP (lu qM (pv 3) hJ (λ _ _=>rfl)) g_)))
theorem OU:∀ st,xx[4]?=My st->PS (XL P w K mg base T cdv A outer s H E) st (kH (jo (MI K) [] E0 (gX (hX 2) (gX (hX 3) iA))) (iM 6)):=by intro st h;obtain rfl:=ak h;exact iX (i:=6) lK.nd rfl (Or.inr rfl) (pC T.j5 (Bb T) hr (gP (pv 2) (gP (pv 3) g_)))
theorem OV:∀ st,xx[5]?=My st->PS (XL P w K mg base T cdv A outer s H E) st (Hq K (ph (gX (hX 3) (gX (tBn K) (gX (tBn K) (gX (tBn K) iA))))) (ggN 7) q5):=by intro st h;obtain rfl:=ak h;exact JH bP rfl (jP (gP (pv 3) (gP (pC T.iO (zF T) hr (gP (pv 2) (gP (pv 3) g_))) (gP (pC T.iO (zF T) hr (gP (pv 2) (gP (pv 3) g_))) (gP (pC T.iO (zF T) hr (gP (pv 2) (gP (pv 3) g_))) g_))))) (pgo 7) kB (iS (j8 (i:=8) lK.nd (iG (tS hr.gd hr.units) T.tV boot_repr (gM (dv 7) gT))) (iS (j8 (i:=9) lK.nd (dC T.nH (wL T) hr (gM (dv 7) gT))) (iS (j8 (i:=10) lK.nd (dC T.j4 (kq T) hr (gM (dv 7) gT))) (iS (mw (tK (mr (jD (j7 (iG ml T.hG boot_isinstance (gM (dv 10) (gM (tJ T.Cd boot_bool) gT))))) (mr (jn (xh (h_ hr)) (dv 10) (dv 9)) (mh (jn (xh (h_ hr)) (iG (tS hr.gd hr.units) T.tV boot_repr (gM (dv 7) gT)) (dv 8)))))) (iH (jb m_)) jr) (iS (Fv (i:=11) lK.nd rfl (csc ["_law_door"] ["_law_thing","_law_none","_law_a"] [7,6,4]) (rT T.jT (gM ie gT)) (λ _ _ _ _=>(pgo 0)) jI kB (λ _ _ _ _=>ox) (λ _ _ _ _=>(dC T.ko (lM T) hr (gM (dv 0) (gM (dv 1) (gM (dv 2) (gM (dv 3) gT))))))) (iH (mw (tK (Lu (jD (j7 (dv 9))) (H_ (jn (Kr (h_ hr)) (dv 11) (jR FJ (mv (gM rK gT)) ie))))) (iH (jb m_)) jr)))))))
theorem OW:∀ st,xx[6]?=My st->PS (XL P w K mg base T cdv A outer s H E) st (tDS K q6):=by intro st h;obtain rfl:=ak h;exact(BR bP rfl (rT T.jT (gM ie gT)) (pgo 12) kB (iS (j8 (i:=13) lK.nd (mv (gM (mU uO T.kD boot_tuple (gM (dC T.nF (sO T) hr (gM (dv 3) (gM (dv 4) gT))) gT)) (gM (mW (dC T.q_ (Ba T) hr (gM (dv 3) (gM (dv 4) gT))) (dv 5)) gT)))) (iH (mw (jn (xh (h_ hr)) (iG (tS hr.gd hr.units) T.tV boot_repr (gM (yR rfl (csc ["_law_door"] ["_law_web_here","_law_a","_law_b"] [3,4,5]) (rT T.jT (gM ie gT)) (λ _ _ _ _=>(pgo 0)) jI kB (λ _ _ _ _=>ox) (λ _ _ _ _=>(dC T.ko (lM T) hr (gM (dv 0) (gM (dv 1) (gM (dv 2) (gM (dv 3) gT))))))) gT)) (iG (tS hr.gd hr.units) T.tV boot_repr (gM (dv 13) gT))) (iH (jb m_)) jr))))
theorem OX:∀ st,xx[7]?=My st->PS (XL P w K mg base T cdv A outer s H E) st (tDS K q7):=by intro st h;obtain rfl:=ak h;exact(j8 (i:=8) lK.nd (iG (tS hr.gd hr.units) T.tV boot_repr (gM (dv 6) gT)))
theorem OY:∀ st,xx[8]?=My st->PS (XL P w K mg base T cdv A outer s H E) st (tDS K q8):=by intro st h;obtain rfl:=ak h;exact(j8 (i:=11) lK.nd (mv (gM (dC T.ko (lM T) hr (gM ie (gM (dv 3) (gM (dv 6) (gM (dv 4) gT))))) (gM (dC T.ko (lM T) hr (gM ie (gM (dv 3) (gM (dv 6) (gM (dv 4) gT))))) (gM (dC T.ko (lM T) hr (gM ie (gM (dv 3) (gM (dv 4) (gM (dv 6) gT))))) gT)))))
theorem OZ:∀ st,xx[9]?=My st->PS (XL P w K mg base T cdv A outer s H E) st (tDS K q9):=by intro st h;obtain rfl:=ak h;exact(mw (tK (mr (jn (Kr (h_ hr)) (dv 11) (jR FJ (mv (gM rK gT)) ie)) (mh (jn (xh (h_ hr)) (iG (tS hr.gd hr.units) T.tV boot_repr (gM (dv 6) gT)) (dv 8))))) (iH (jb m_)) jr)
theorem O1:∀ st,(iL mY)[2]?=My st->PS (XL P w K mg base T cdv A outer s H E) st (JK K):=by intro st h;obtain rfl:=ak h;exact qy (PW.pt (Cp (rz (OL (h_ hr)) (Fd rfl (csc ["_law_thing"] [] []) (oC (dv 14)) (λ _ _ _ _=>(pgo 0)) jI (λ _ _ _ _=>ox) (λ _ _ _ _=>(pC T.j4 (Cm T) hr (gP (mf (gP hJ (gP (pv 0) g_))) g_)))) (jR FJ (mv (gM m_ gT)) ie) (s_ _)) (yq (jn FD (dC T.j4 (kq T) hr (gM (jc (gM ie (gM (jc (gM (jc (gM ie (gM ie gT))) (gM (jc (gM ie (gM ie gT))) gT))) gT))) gT)) m_)))) (iW (kG tZ)) lQ
theorem O2:∀ st,(iL mY)[3]?=My st->PS (XL P w K mg base T cdv A outer s H E) st (tDS K Et):=by intro st h;obtain rfl:=ak h;exact(mw (jn FD (dC T.j4 (kq T) hr (gM (jc (gM ie (gM (mU uO T.kD boot_tuple (gM (yR rfl (csc ["_law_place"] [] []) (Io T.jT (gM ie (gM ie gT))) (λ _ _ _ _=>(pgo 0)) jI kB (λ _ _ _ _=>ox) (λ _ _ _ _=>(jc (gM ie (gM (dv 0) gT))))) gT)) gT))) gT)) m_) (iH (jb m_)) jr)
theorem O3:∀ st,(iL mY)[4]?=My st->PS (XL P w K mg base T cdv A outer s H E) st (tDS K Eu):=by intro st h;obtain rfl:=ak h;exact(jb (ug (vG Kj (dC T.j4 (kq T) hr (gM (jc (gM ie (gM (jc (gM (jc (gM ie (gM ie gT))) gT)) gT))) gT)) m_) (vI (vG Kj (dC T.j4 (kq T) hr (gM (jc (gM ie (gM (jc gT) gT))) gT)) m_))))
end
end
end K01
namespace L2
open PySem PySem.Spec PyProof.Rows Zp Qs
theorem good2:Good (2,[(0,1)]):=⟨by decide,by decide,by decide,by decide,yZ (n:=2) (by decide) (by decide) (λ S h0 h v hv=>by
 have h1:S 1:=(h (0,1) (by simp)).mp h0;rcases (show v=0\/v=1 from by lia) with rfl | rfl
 ·exact h0
 ·exact h1),by decide,by simp⟩
end L2
namespace K02
open PySem PySem.Spec PyProof.Rows L2 Zp
section
variable {P:Program}{w:World}{K:gG}{mg:gD}{base:Heap}
structure LS (K:gG)(H0:Hp)(p:Addr)(wt ww:Web)(dn:Dt)(vt vw vn:V)(n:Int)(H:Hp):Prop where
 gt:Good wt
 tr:wt.2.length+1=wt.1
 gw:Good ww
 it:Is K H vt (iP wt)
 iw:Is K H vw (iP ww)
 pl:mG wt.1 dn=Rn
 kd:kdB dn=Rm
 iN:Is K (hdP H p) vn dn
 hp:H p=My (.lst [.int n])
 p0:H0 p=Rl
 sm:gY H0 H
section
variable {D:Ends}{H0 H H':Hp}{a0 p:Addr}{wt ww:Web}{dn:Dt}{vt vw vn vt' vw':V}{n n':Int}(L:LS K H0 p wt ww dn vt vw vn n H)
include L
end
end
end K02
namespace L2
open PySem PySem.Spec PyProof.Rows Zp Qs
theorem isW {x:Dt}(h:okW x=Rm):i8 [x]=My (.bl (ju x)):=ai h
theorem Qw:ju (.tup [.int 4,.tup [.tup [.int 0,.int 1],.tup [.int 2,.int 3]]])=Rn:=by decide +kernel
theorem Qx (ts:List Dt):ju (.tup [.int 9,.tup ts])=Rn:=rfl
theorem Qy:ju (.tup [.int 2,.tup [.tup [.int 0,.int 1]]])=Rm:=by have e:Dt.tup [.int 2,.tup [.tup [.int 0,.int 1]]]=iP (2,[(0,1)]):=rfl;rw[e,zh,qS good2];rfl
theorem Qz (ts:List Dt):ju (.tup [.int 1,.tup ts])=Rn:=rfl
theorem JL (δ:DE):MW δ=My Rn:=by have a:i8 [.tup [.int 4,.tup [.tup [.int 0,.int 1],.tup [.int 2,.int 3]]]]=My (.bl Rn):=(isW rfl).trans (by rw[Qw]);have b:vK (.bl Rn) (.bl Rn)=My (.bl Rn):=rfl;simp[MW,a,b]
theorem JM (δ:DE):Et δ=My (.nx δ):=by have a:i8 [.tup [.int 9,.tup [.tup [.int 0,.int 1],.tup [.int 0,.int 2],.tup [.int 0,.int 3],.tup [.int 0,.int 4],.tup [.int 0,.int 5],.tup [.int 0,.int 6],.tup [.int 0,.int 7],.tup [.int 0,.int 8]]]]=My (.bl Rn):=(isW rfl).trans (by rw[Qx]);have b:vK (.bl Rn) (.bl Rn)=My (.bl Rn):=rfl;have lc:gLC ["_law_place"] [] (Au (gN (gC (.int 1)) (gN (gC (.int 9)) gR))) (ggN 0) jU (i9 (gN (gC (.int 0)) (gN (gS 0) gR))) δ=My (.lst [.tup [.int 0,.int 1],.tup [.int 0,.int 2],.tup [.int 0,.int 3],.tup [.int 0,.int 4],.tup [.int 0,.int 5],.tup [.int 0,.int 6],.tup [.int 0,.int 7],.tup [.int 0,.int 8]]):=rfl;unfold Et;generalize [Dt.tup [.int 0,.int 1],.tup [.int 0,.int 2],.tup [.int 0,.int 3],.tup [.int 0,.int 4],.tup [.int 0,.int 5],.tup [.int 0,.int 6],.tup [.int 0,.int 7],.tup [.int 0,.int 8]]=ll,gLC ["_law_place"] [] (Au (gN (gC (.int 1)) (gN (gC (.int 9)) gR))) (ggN 0) jU (i9 (gN (gC (.int 0)) (gN (gS 0) gR)))=G at *;simp[lc,a,b]
theorem JN (δ:DE):Eu δ=My (.rt (.bl Rm)):=by have a:i8 [.tup [.int 2,.tup [.tup [.int 0,.int 1]]]]=My (.bl Rm):=(isW rfl).trans (by rw[Qy]);have b:i8 [.tup [.int 1,.tup []]]=My (.bl Rn):=(isW rfl).trans (by rw[Qz]);have c:BS (.bl Rm) (.bl Rm)=My (.bl Rm):=rfl;have d:BS (.bl Rn) (.bl Rn)=My (.bl Rm):=rfl;simp[Eu,a,b,c,d]
def oU (a2:Addr):Dt->gF Dt
 | .opq (.ref a)=>if a=a2 then My (.bl Rn) else Rl
 | x=>i8 [.tup [.int 2,x]]
def gU (a2:Addr):DE->gF Dt:=λ δ=>(gS 0 δ).bind (oU a2)
def wW (a2:Addr):List Dt:=[.non,.int 7,.bl Rm,.str "01",.dct [],.opq (.ref a2),.tup [.non],.tup [.int 7],.tup [.tup [.int 0,.int 1],.non],.lst [.tup [.int 0,.int 1]]]
theorem lcO (a2:Addr)(x0 x1 x2 x3 x4 x5 x6 x7 x8 x9 x10 x11 x12 x13:gF Dt):gLC ["_law_thing"] [] (gI k_ (gS 14)) (ggN 0) jU (gU a2) [x0,x1,x2,x3,x4,x5,x6,x7,x8,x9,x10,x11,x12,x13,My (.lst (wW a2))]=My (.lst (Rp 10 (.bl Rn))):=by
 have e:gI k_ (gS 14) [x0,x1,x2,x3,x4,x5,x6,x7,x8,x9,x10,x11,x12,x13,My (.lst (wW a2))]=My (wW a2):=rfl;have h:∀ x∈wW a2,oU a2 x=My (.bl Rn):=λ x hx=>by
  unfold wW at hx;simp only[ax,aN,or_false]at hx;rcases hx with rfl | rfl | rfl | rfl | rfl | rfl | rfl | rfl | rfl | rfl
  ·rfl
  ·rfl
  ·rfl
  ·rfl
  ·rfl
  ·exact ai rfl
  ·rfl
  ·rfl
  ·rfl
  ·rfl
 have go:∀ l:List Dt,(∀ x∈l,oU a2 x=My (.bl Rn))->qP (ggN 0) jU (gU a2) [Rl] l=My (Rp l.length (.bl Rn)):=λ l=>by
  induction l with
  | nil=>intro _;rfl
  | cons x r ih =>intro h;have h1:=h x ay;have h2:=ih λ y hy=>h y (aw _ hy);have g1:gU a2 [My x]=My (.bl Rn):=h1;generalize gU a2=G at *;simp[qP,ggN,jU,g1,h2,cF]
 have g:=go (wW a2) h;have cd:o7 ["_law_thing"] [] [x0,x1,x2,x3,x4,x5,x6,x7,x8,x9,x10,x11,x12,x13,My (.lst (wW a2))]=[Rl]:=rfl;unfold gLC;rw[e,aB,cd,g];rfl
end L2
namespace K01
open PySem PySem.Spec PyProof.Rows L2 Zp
theorem KH {σ:L2.St}{v:V}(h:σ.length=15)(h0:σ[0]?=My (My v)):∃ x1 x2 x3 x4 x5 x6 x7 x8 x9 x10 x11 x12 x13 x14:gF V,σ=[My v,x1,x2,x3,x4,x5,x6,x7,x8,x9,x10,x11,x12,x13,x14]:=by
 match σ,h with
 | [x0,x1,x2,x3,x4,x5,x6,x7,x8,x9,x10,x11,x12,x13,x14],_ =>cases h0;exact⟨_,_,_,_,_,_,_,_,_,_,_,_,_,_,rfl⟩
theorem imW (ww:Web):Imm (iP ww):=.tup (.cons (.int _) (.cons (.tup (qt.of λ d hd=>by obtain⟨t,_,rfl⟩:=aA.mp hd;exact .tup (.cons (.int _) (.cons (.int _) .nil)))) .nil))
theorem But.same {p:Addr}{H0 H H':Hp}(b:But p H H')(s:gY H0 H)(n:H0 p=Option.none):gY H0 H':=λ c o e=>b c o (s c o e) (ik e n)
theorem But.text {p:Addr}{H H':Hp}{n:Int}(b:But p H H')(hp:H p=My (.lst [.int n])):j_ H H':=⟨λ c xs e=>b c _ e (λ z=>by subst z;rw[hp]at e;cases e),λ c o u e=>b c _ e (λ z=>by subst z;rw[hp]at e;cases e)⟩
section
variable {P:Program}{w:World}{K:gG}{mg:gD}{base:Heap}
def q69:DE->gF RD:=kM q6 (kM q7 (kM q8 q9))
def l5 (K:gG):TS:=jh (Hq K (ph (gX (hX 3) (gX (tBn K) (gX (tBn K) (gX (tBn K) iA))))) (ggN 7) q5) (tDS K q69)
def l4 (K:gG):TS:=jh (kH (jo (MI K) [] E0 (gX (hX 2) (gX (hX 3) iA))) (iM 6)) (l5 K)
def lB (K:gG):TS:=jh (kH (jo GX [] E0 (gX (jo (Cg K) [] E0 (gX (hX 0) (gX (hX 1) iA))) iA)) (iM 2)) (jh (wb K 1 3) (jh (tk K 3 4) (jh (tk K 3 5) (l4 K))))
def lT (K:gG):TS:=jh (kH tOd (iM 14)) (jh (JK K) (tDS K (kM Et Eu)))
def lA (K:gG):TS:=jh (w6 (u_ (gX (tCB Je (gX (tC (V.int 1)) (gX (tCB Jd (gX (tCB (GY K) (gX (hX 0) iA)) (gX (tC (V.int 10)) iA))) iA))) iA)) (iM 1) (lB K)) (lT K)
abbrev Nx (D:Ends)(H:Hp)(a0:Addr):Prop:=∀ σ' H',σ'.length=15->σ'[0]?=My (My (.ref a0))->gY H H'->D.nx σ' H'
theorem MX {ww:Web}(g:Good ww){a b:Nat}(ha:a<ww.1)(hb:b<ww.1){dn:Dt}(pl:mG ww.1 dn=Rn)(kd:kdB dn=Rm)(hr:qw dn=Rm)(x0 x1 x2 x7 x8 x9 x10 x11 x12 x13 x14:gF Dt):∃ y8 y11 y12 y13,q69 [x0,x1,x2,My (iP ww),My (gO a),My (gO b),My dn,x7,x8,x9,x10,x11,x12,x13,x14]=My (.nx [x0,x1,x2,My (iP ww),My (gO a),My (gO b),My dn,x7,y8,x9,x10,y11,y12,y13,x14]):=by obtain⟨y12,y13,e⟩:=g.OG ha hb x0 x1 x2 (My dn) x7 x8 x9 x10 x11 x12 x13 x14;obtain⟨y8,y11,e2⟩:=g.MS ha pl kd hr x0 x1 x2 (My (gO b)) x7 x8 x9 x10 x11 y12 y13 x14;refine⟨y8,y11,y12,y13,?_⟩;unfold q69;rw[jY e];exact e2
theorem Ht {σ:L2.St}{H:Hp}{p:Addr}{vw:V}{ww:Web}{n:Int}{Q:VK}(h2:σ[2]?=My (My (.ref p)))(h3:σ[3]?=My (My vw))(gw:Good ww)(iw:Is K H vw (iP ww))(hp:H p=My (.lst [.int n]))
  (h:∀ (u:V) (d:Dt) (n':Int) (H':Hp),FR d->Is K (hdP H' p) u d->H' p=My (.lst [.int n'])->But p H H'->Q u H'):tBn K σ H Q:=⟨_,h2,_,h3,p,n,vw,ww,rfl,gw,iw,hp,h⟩
theorem But.trans {p:Addr}{H H1 H2:Hp}(a:But p H H1)(b:But p H1 H2):But p H H2:=λ c o e n=>b c o (a c o e n) n
theorem O4 {D:Ends}{H0 H:Hp}{a0 p:Addr}{ww:Web}{vw vn:V}{dn:Dt}{n:Int}{a b:Nat}{x1 x7 x8 x9 x10 x11 x12 x13 x14:gF V}(gw:Good ww)(ha:a<ww.1)(hb:b<ww.1)(iw:Is K H vw (iP ww))(pl:mG ww.1 dn=Rn)(kd:kdB dn=Rm)(rn:qw dn=Rm)(iN:Is K (hdP H p) vn dn)(sm:gY H0 H)(p0:H0 p=Rl)(hp:H p=My (.lst [.int n]))(h:Nx D H0 a0) :
  l5 K D [My (.ref a0),x1,My (.ref p),My vw,My (iV a),My (iV b),My vn,x7,x8,x9,x10,x11,x12,x13,x14] H:=by
 refine⟨_,rfl,Ht rfl rfl gw iw hp λ u1 d1 n1 H1 f1 i1 hp1 b1=>?_⟩;have iw1:=iw.text (b1.text hp) (imW ww);refine Ht rfl rfl gw iw1 hp1 λ u2 d2 n2 H2 f2 i2 hp2 b2=>?_;have iw2:=iw1.text (b2.text hp1) (imW ww);refine Ht rfl rfl gw iw2 hp2 λ u3 d3 n3 H3 f3 i3 hp3 b3=>?_;have iw3:=iw2.text (b3.text hp2) (imW ww);have j1:Is K H3 u1 d1:=(i1.ext (uX (b2.trans b3))).ext (nX _ _);have j2:Is K H3 u2 d2:=(i2.ext (uX b3)).ext (nX _ _);have j3:Is K H3 u3 d3:=i3.ext (nX _ _);have jN:Is K H3 vn dn:=(iN.ext (uX ((b1.trans b2).trans b3))).ext (nX _ _);have s3:gY H0 H3:=((b1.trans b2).trans b3).same sm p0;clear i1 i2 i3 iN iw iw1 iw2 hp hp1 hp2 hp3;refine⟨by show 4<=sizeLine;decide,λ q hq=>?_⟩;have s4:gY H3 (L2.upd H3 q (.lst [vw,u1,u2,u3])):=gY.upd hq;have t4:L2.upd H3 q (.lst [vw,u1,u2,u3]) q=My (.lst [vw,u1,u2,u3]):=gW;generalize L2.upd H3 q (.lst [vw,u1,u2,u3])=H4 at *;have fw:fit (iP ww)=Rm:=A9 gw.len rfl (m9 _);obtain⟨y7,y8,y9,y10,y11,e⟩:=Hm (a:=a) kd (My (.opq (.ref a0))) Rl Rl (My (iP ww)) (My (gO b)) Rl Rl Rl [iP ww,d1,d2,d3] (λ x hx=>by
  simp only[ax,aN,or_false]at hx;rcases hx with rfl | rfl | rfl | rfl
  ·exact⟨fw,gw.MH⟩
  ·exact f1
  ·exact f2
  ·exact f3) Rl Rl Rl Rl Rl
 obtain⟨z8,z11,z12,z13,e2⟩:=MX gw ha hb pl kd rn (My (.opq (.ref a0))) Rl Rl y7 y8 y9 y10 y11 Rl Rl Rl;refine⟨[iP ww,d1,d2,d3],_,_,.lst t4 (.cons (iw3.ext s4) (.cons (j1.ext s4) (.cons (j2.ext s4) (.cons (j3.ext s4) .nil)))),stS (.opq _) (L2.stN (L2.stN (stS (iw3.ext s4) (stS (.int _) (stS (.int _) (stS (jN.ext s4) (L2.stN (L2.stN (L2.stN (L2.stN (L2.stN (L2.stN (L2.stN (L2.stN L2.stE)))))))))))))),e,λ H5 s5 σ5 S5=>?_⟩;refine⟨_,_,S5,e2,λ H6 s6 σ6 S6=>h σ6 H6 S6.len ?_ (((s3.trans s4).trans s5).trans s6)⟩;obtain⟨v7,e7,i7⟩:=S6.at_ 0 _ rfl;rw[e7,i7.qf]
theorem O5 {D:Ends}{H0 H:Hp}{a0 p:Addr}{ww:Web}{vw:V}{n:Int}{a b:Nat}{x1 x6 x7 x8 x9 x10 x11 x12 x13 x14:gF V}(gw:Good ww)(ha:a<ww.1)(hb:b<ww.1)(iw:Is K H vw (iP ww))(sm:gY H0 H)(p0:H0 p=Rl)(hp:H p=My (.lst [.int n]))(h:Nx D H0 a0) :
  l4 K D [My (.ref a0),x1,My (.ref p),My vw,My (iV a),My (iV b),x6,x7,x8,x9,x10,x11,x12,x13,x14] H:=by
 refine⟨_,rfl,_,rfl,p,n,vw,ww,rfl,gw,iw,hp,λ u d n' H' pl kd rp iu hp' but=>?_⟩;have but:But p H H':=but;exact O4 gw ha hb (iw.text (but.text hp) (imW _)) pl kd rp iu (but.same sm p0) p0 hp' h
theorem KI {D:Ends}{σ:L2.St}{H:Hp}{p:Addr}{i j:Nat}{v:V}{ww:Web}{n:Int}(hg:Good ww)(h2:σ[2]?=My (My (.ref p)))(hj:σ[j]?=My (My v))(iw:Is K H v (iP ww))(hp:H p=My (.lst [.int n]))
  (h:∀ (a:Nat) (n':Int),a<ww.1->D.nx (σ.set i (My (iV a))) (L2.upd H p (.lst [.int n']))):tk K j i D σ H:=by
 have wp:0<ww.1:=by have:=hg.two;lia
 have w8:=hg.nQ;obtain⟨r,xs,hv,hr3,is3⟩:=iw.ip;obtain⟨v0,v1,hxs,j0,j1⟩:=is3.two;have hv0:=j0.int_inv;refine⟨_,h2,_,hj,r,_,_,v0,hv,rfl,hr3,by rw[hxs];rfl,p,n,ww.1,by rw[hv0];rfl,hp,by lia,by lia,?_⟩;obtain⟨a,ha,am⟩:=Er n wp;rw[ha];exact h a _ am
theorem O6 {D:Ends}{H H0:Hp}{a0:Addr}{ns:List Int}{i:Nat}{x2 x3 x4 x5 x6 x7 x8 x9 x10 x11 x12 x13 x14:gF V}(hS:SqL K H a0 (ns.map V.int))(h63:ns.length<=63)(sm0:gY H H0)
  (h:Nx D H a0):lB K D [My (.ref a0),My (iV i),x2,x3,x4,x5,x6,x7,x8,x9,x10,x11,x12,x13,x14] H0:=by
 refine⟨_,rfl,_,rfl,a0,ns,i,rfl,sm0.seq hS,h63,λ c=>⟨c,rfl,λ p n hp=>?_⟩⟩;have p0:H p=Rl:=sm0.free hp;refine⟨_,rfl,p,n,1,rfl,ar _,gW,λ v H1 n1 ww gw _ iw hp1 but1=>?_⟩;have sm1:gY H H1:=λ b o e=>but1 b o (by rw[g9 (ik e p0)];exact sm0 b o e) (ik e p0);refine KI gw rfl rfl iw hp1 λ a n3 ha=>?_;have t3:j_ H1 (L2.upd H1 p (.lst [.int n3])):=j_.upd (by rw[hp1];trivial);have iw3:=iw.text t3 (imW ww);have sm3:gY H (L2.upd H1 p (.lst [.int n3])):=jE sm1 p0;have hp3:L2.upd H1 p (.lst [.int n3]) p=My (.lst [.int n3]):=gW;generalize L2.upd H1 p (.lst [.int n3])=H3 at *;refine KI gw rfl rfl iw3 hp3 λ b n4 hb=>?_;have t4:j_ H3 (L2.upd H3 p (.lst [.int n4])):=j_.upd (by rw[hp3];trivial);exact O5 gw ha hb (iw3.text t4 (imW ww)) (jE sm3 p0) p0 gW h
end
section
variable {P:Program}{w:World}{K:gG}{mg:gD}{base:Heap}
section
variable (T:Txt K mg)(cdv:gH)(A:Around)(outer:List Env)(s:gJ)(H:Hp)(E:XK)(hr:jt 7 (A.deeper (envOfC "law" (gZ mY) s.heap.objs.size T.uw.f cdv)))
include hr
theorem O7:∀ st,(iL mY)[1]?=My st->PS (XL P w K mg base T cdv A outer s H E) st (kH tOd (iM 14)):=by intro st h;obtain rfl:=ak h;exact @OP (XL P w K mg base T cdv A outer s H E) _ (fS (h_ hr)) lK.nd rfl (Or.inl rfl) (.inl rfl) _ _ _ _ _ _ _ _ _ _ _ _ _ _ _ _ _ _ _ _ _ _ _ _ _ _ _ _ _ _ _ _ _ _ _ _ _ _ _ _ _ _ _ _ _ _
end
end
section
variable {P:Program}{w:World}{K:gG}{mg:gD}{base:Heap}
theorem MY {H:Hp}{p b:Addr}{o u:HO}(h:H p=Rl)(e:H b=My u):L2.upd H p o b=My u:=by rw[g9 (ik e h)];exact e
theorem JO {σ:L2.St}{H:Hp}{Q:VK}(h:∀ (q a2:Addr) (kvs:List (List Key×V)) (H':Hp),Is K H' (.ref q) (.lst (wW a2))->H' a2=My (.dT kvs)->Q (.ref q) H'):tOd σ H Q:=by
 intro p1 h1;have d1:L2.upd H p1 (.dK []) p1=My (.dK []):=gW;show zG _ _ σ (L2.upd H p1 (.dK [])) _;generalize L2.upd H p1 (.dK [])=H1 at *;clear h1;intro p2 h2;have n21:p1≠p2:=ik d1 h2;have d1:L2.upd H1 p2 (.dT []) p1=My (.dK []):=MY h2 d1;have d2:L2.upd H1 p2 (.dT []) p2=My (.dT []):=gW;generalize L2.upd H1 p2 (.dT [])=H2 at *;clear h2;refine⟨by show 2<=sizeLine;decide,λ k hk=>?_⟩;have d1:L2.upd H2 k (.tup [.int 0,.int 1]) p1=My (.dK []):=MY hk d1;have d2:L2.upd H2 k (.tup [.int 0,.int 1]) p2=My (.dT []):=MY hk d2;have d3:L2.upd H2 k (.tup [.int 0,.int 1]) k=My (.tup [.int 0,.int 1]):=gW;generalize L2.upd H2 k (.tup [.int 0,.int 1])=H3 at *;clear hk;refine⟨d2,[.inl 0,.inl 1],k,rfl,d3,?_⟩;generalize hkv:(putK ([]:List (List Key×V)) [.inl 0,.inl 1] (.int 1))=kvs;have d1:L2.upd H3 p2 (.dT kvs) p1=My (.dK []):=by rw[g9 n21];exact d1
 have d2:L2.upd H3 p2 (.dT kvs) p2=My (.dT kvs):=gW;generalize L2.upd H3 p2 (.dT kvs)=H4 at *;clear d3;refine⟨by show 1<=sizeLine;decide,λ t1 h1=>?_⟩;have s5:gY H4 (L2.upd H4 t1 (.tup [.non])):=gY.upd h1;have e1:L2.upd H4 t1 (.tup [.non]) t1=My (.tup [.non]):=gW;generalize L2.upd H4 t1 (.tup [.non])=H5 at *;refine⟨by show 1<=sizeLine;decide,λ t2 h2=>?_⟩;have s6:gY H5 (L2.upd H5 t2 (.tup [.int 7])):=gY.upd h2;have e2:L2.upd H5 t2 (.tup [.int 7]) t2=My (.tup [.int 7]):=gW;generalize L2.upd H5 t2 (.tup [.int 7])=H6 at *;refine⟨by show 2<=sizeLine;decide,λ t3 h3=>?_⟩;have s7:gY H6 (L2.upd H6 t3 (.tup [.int 0,.int 1])):=gY.upd h3;have e3:L2.upd H6 t3 (.tup [.int 0,.int 1]) t3=My (.tup [.int 0,.int 1]):=gW;refine⟨by show 2<=sizeLine;decide,λ t4 h4=>?_⟩;generalize L2.upd H6 t3 (.tup [.int 0,.int 1])=H7 at *;have s8:gY H7 (L2.upd H7 t4 (.tup [.ref t3,.non])):=gY.upd h4;have e4:L2.upd H7 t4 (.tup [.ref t3,.non]) t4=My (.tup [.ref t3,.non]):=gW;generalize L2.upd H7 t4 (.tup [.ref t3,.non])=H8 at *;refine⟨by show 2<=sizeLine;decide,λ t5 h5=>?_⟩;have s9:gY H8 (L2.upd H8 t5 (.tup [.int 0,.int 1])):=gY.upd h5;have e5:L2.upd H8 t5 (.tup [.int 0,.int 1]) t5=My (.tup [.int 0,.int 1]):=gW;generalize L2.upd H8 t5 (.tup [.int 0,.int 1])=H9 at *;refine⟨by show 1<=sizeLine;decide,λ t6 h6=>?_⟩;have s10:gY H9 (L2.upd H9 t6 (.lst [.ref t5])):=gY.upd h6;have e6:L2.upd H9 t6 (.lst [.ref t5]) t6=My (.lst [.ref t5]):=gW;generalize L2.upd H9 t6 (.lst [.ref t5])=H10 at *;refine⟨by show 10<=sizeLine;decide,λ q hq=>?_⟩;have s11:gY H10 (L2.upd H10 q (.lst [.non,.int 7,.bl Rm,.str "01",.ref p1,.ref p2,.ref t1,.ref t2,.ref t4,.ref t6])):=gY.upd hq;have e7:L2.upd H10 q (.lst [.non,.int 7,.bl Rm,.str "01",.ref p1,.ref p2,.ref t1,.ref t2,.ref t4,.ref t6]) q=My (.lst [.non,.int 7,.bl Rm,.str "01",.ref p1,.ref p2,.ref t1,.ref t2,.ref t4,.ref t6]):=gW;generalize hL:L2.upd H10 q (.lst [.non,.int 7,.bl Rm,.str "01",.ref p1,.ref p2,.ref t1,.ref t2,.ref t4,.ref t6])=H11 at *;have z10:=s10.trans s11;have z9:=s9.trans z10;have z8:=s8.trans z9;have z7:=s7.trans z8;have z6:=s6.trans z7;have z5:=s5.trans z6;have pr:∀ t,H11 t=My (.tup [.int 0,.int 1])->Is K H11 (.ref t) (.tup [.int 0,.int 1]):=λ t e=>.tup (SqT.of e) (.cons (.int _) (.cons (.int _) .nil));have R:=h q p2 kvs H11 (.lst e7 (.cons .non (.cons (.int _) (.cons (.bl _) (.cons (.str _) (.cons (.dct (.inl (z5 _ _ d1))) (.cons (.opq _) (.cons (.tup (SqT.of (z6 _ _ e1)) (.cons .non .nil)) (.cons (.tup (SqT.of (z7 _ _ e2)) (.cons (.int _) .nil)) (.cons (.tup (SqT.of (z9 _ _ e4)) (.cons (pr t3 (z8 _ _ e3)) (.cons .non .nil))) (.cons (.lst (s11 _ _ e6) (.cons (pr t5 (z10 _ _ e5)) .nil)) .nil))))))))))) (z5 _ _ d2);exact R
set_option tactic.hygienic true in
theorem JP {a2:Addr}{kvs:List (List Key×V)}(σ:L2.St)(H:Hp)(Q:VK)(δ:DE)(d:Dt)(z:H a2=My (.dT kvs))(S:Sat K H σ δ)(e:gU a2 δ=My d)(q:∀ v H',gY H H'->Is K H' v d->Q v H'):jo (spU K) [] E0 (gX (pg (gX (tC (V.int 2)) (gX (hX 0) iA))) iA) σ H Q:=by
 obtain⟨x,e1,e⟩:=gQ e;have e0:δ[0]?=My (My x):=by
  unfold gS at e1;cases h:δ[0]? with
  | none=>rw[h]at e1;cases e1
  | some y=>rw[h]at e1;cases y with
   | none=>cases e1
   | some y=>cases e1;rfl
 obtain⟨v,hv,iv⟩:=S.at_ 0 x e0;refine⟨_,hv,by show 2<=sizeLine;decide,λ p hp=>?_⟩;have s1:gY H (L2.upd H p (.tup [.int 2,v])):=gY.upd hp;have t1:L2.upd H p (.tup [.int 2,v]) p=My (.tup [.int 2,v]):=gW;show spU K [.ref p] (L2.upd H p (.tup [.int 2,v])) Q E0;generalize L2.upd H p (.tup [.int 2,v])=H1 at *;by_cases c:x=.opq (.ref a2)
 ·subst c;have:=iv.qf;subst this;rw[show oU a2 (.opq (.ref a2))=My (.bl Rn) from ai rfl]at e;cases e;exact .inr ⟨p,a2,kvs,rfl,SqT.of t1,s1 _ _ z,λ H' s=>q _ H' (s1.trans s) (.bl _)⟩
 ·have e:i8 [.tup [.int 2,x]]=My d:=by
   unfold oU at e;split at e
   ·rename_i a
    by_cases ca:a=a2
    ·subst ca;exact absurd rfl c
    ·rw[aq ca]at e;cases e
   ·exact e
  exact .inl ⟨_,d,rfl,.cons (.tup (SqT.of t1) (.cons (.int _) (.cons (iv.ext s1) .nil))) .nil,e,λ v H' s i=>q v H' (s1.trans s) i⟩
theorem JQ {D:Ends}{H1:Hp}{σ:L2.St}{a2:Addr}{kvs:List (List Key×V)}(S:∀ H',gY H1 H'->Sat K H' σ [Rl,Rl,Rl,Rl,Rl,Rl,Rl,Rl,Rl,Rl,Rl,Rl,Rl,Rl,My (.lst (wW a2))])(z:H1 a2=My (.dT kvs))(h:∀ H',gY H1 H'->D.nx σ H'):JK K D σ H1:=by have r1:hU Al (lz (gN (gC (.bl Rn)) gR)) (gC (.int 10)) [Rl,Rl,Rl,Rl,Rl,Rl,Rl,Rl,Rl,Rl,Rl,Rl,Rl,Rl,My (.lst (wW a2))]=My (.lst (Rp 10 (.bl Rn))):=rfl;unfold JK Bg tOr zP tOp tLO;refine JI (K:=K) (Z:=λ H=>H a2=My (.dT kvs)) (ge:=gU a2) (λ s z=>s _ _ z) kB (λ σ H Q δ d z S e q=>JP σ H Q δ d z S e q) _ _ _ z ⟨_,_,S H1 (gY.refl H1),lcO a2 ..,λ v H2 s2 iv=>?_⟩;refine⟨_,_,S H2 s2,r1,λ v3 H3 s3 i3=>?_⟩;refine⟨_,_,_,iv.ext s3,i3,JJ,λ v4 H4 s4 i4=>⟨Rn,i4.jk,?_⟩⟩;refine Bx ?_;have S4:=S H4 ((s2.trans s3).trans s4);refine⟨_,Rn,S4,JL _,λ H5 s5=>?_⟩;refine Bx ?_;exact h H5 (((s2.trans s3).trans s4).trans s5)
theorem MZ {D:Ends}{H:Hp}{σ:L2.St}{δ:DE}(S:Sat K H σ δ)(q:∀ H',D.rt (.bl Rm) H'):tDS K (kM Et Eu) D σ H:=by
 have e:kM Et Eu δ=My (.rt (.bl Rm)):=by rw[jY (JM δ)];exact JN δ
 refine⟨δ,_,S,e,λ H6 s6 v i=>?_⟩;have:=i.jk;subst this;exact q H6
theorem M0 {D:Ends}{H:Hp}{x0 x1 x2 x3 x4 x5 x6 x7 x8 x9 x10 x11 x12 x13 x14:gF V}(q:∀ H',D.rt (.bl Rm) H'):lT K D [x0,x1,x2,x3,x4,x5,x6,x7,x8,x9,x10,x11,x12,x13,x14] H:=by unfold lT jh kH;refine JO (K:=K) λ ad a2 kvs H1 io z=>?_;have S:∀ H',gY H1 H'->Sat K H' [x0,x1,x2,x3,x4,x5,x6,x7,x8,x9,x10,x11,x12,x13,My (.ref ad)] [Rl,Rl,Rl,Rl,Rl,Rl,Rl,Rl,Rl,Rl,Rl,Rl,Rl,Rl,My (.lst (wW a2))]:=λ H' s=>L2.stN (L2.stN (L2.stN (L2.stN (L2.stN (L2.stN (L2.stN (L2.stN (L2.stN (L2.stN (L2.stN (L2.stN (L2.stN (L2.stN (stS (io.ext s) L2.stE))))))))))))));exact JQ S z λ H' s=>MZ (S H' s) q
theorem O8 {D:Ends}{H:Hp}{a0:Addr}{ns:List Int}(hS:SqL K H a0 (ns.map V.int))(h63:ns.length<=63)(q:∀ H',D.rt (.bl Rm) H'):lA K D [My (.ref a0),Rl,Rl,Rl,Rl,Rl,Rl,Rl,Rl,Rl,Rl,Rl,Rl,Rl,Rl] H:=by
 refine⟨_,rfl,a0,_,rfl,.inl hS,_,_,rfl,_,_,rfl,_,rfl,?_,?_,?_⟩
 ·lia
 ·lia
 ·generalize (if (if (10:Int)<((ns.map V.int).length:Int) then (10:Int) else ((ns.map V.int).length:Int))>1 then (if (10:Int)<((ns.map V.int).length:Int) then (10:Int) else ((ns.map V.int).length:Int)) else 1)=N
  refine mK (lo:=0) (n:=N.toNat) (λ i σ' H'=>σ'.length=15/\σ'[0]?=My (My (.ref a0))/\gY H H') ⟨rfl,rfl,gY.refl H⟩ ?_ ?_
  ·rintro i σ' H0 hi ⟨hl,h0,sm0⟩;obtain⟨x1,x2,x3,x4,x5,x6,x7,x8,x9,x10,x11,x12,x13,x14,rfl⟩:=KH hl h0;rw[Int.zero_add];exact O6 hS h63 sm0 λ σ' H' h1 h2 h3=>⟨h1,h2,h3⟩
  ·rintro σ' H' ⟨hl,h0,sm0⟩;obtain⟨x1,x2,x3,x4,x5,x6,x7,x8,x9,x10,x11,x12,x13,x14,rfl⟩:=KH hl h0;show lT K D _ _;exact M0 q
end
section
variable {P:Program}{w:World}{K:gG}{mg:gD}{base:Heap}
def Dm (K:gG):Sp:=λ vs H Q _=>∃ (a:Addr) (ns:List Int),vs=[.ref a]/\SqL K H a (ns.map V.int)/\ns.length<=63/\∀ H',Q (.bl Rm) H'
theorem QA {α:Type}:∀ l:List α,l.length=5->∃ s0 s1 s2 s3 s4,l=[s0,s1,s2,s3,s4]/\l[0]?=My s0/\l[1]?=My s1/\l[2]?=My s2/\l[3]?=My s3/\l[4]?=My s4
 | [a,b,c,d,e],_=>⟨a,b,c,d,e,rfl,rfl,rfl,rfl,rfl,rfl⟩
def lF (K:gG):TS:=w6 (u_ (gX (tCB Je (gX (tC (V.int 1)) (gX (tCB Jd (gX (tCB (GY K) (gX (hX 0) iA)) (gX (tC (V.int 10)) iA))) iA))) iA)) (iM 1) (lB K)
section
variable (T:Txt K mg)(cdv:gH)(A:Around)(outer:List Env)(s:gJ)(H:Hp)(E:XK)(hr:jt 7 (A.deeper (envOfC "law" (gZ mY) s.heap.objs.size T.uw.f cdv)))
include hr
theorem M1:∀ st,(iL mY)[0]?=My st->PS (XL P w K mg base T cdv A outer s H E) st (lF K):=by
 intro st h;obtain rfl:=ak h;exact mQ bP rfl (lN rfl T.jT (gP (jH (tf rfl) rfl T.GS boot_max (gP hJ (gP (jH (tj rfl) rfl T.GR boot_min (gP (jH lx rfl T.pZ cz (gP (pv 0) g_)) (gP hJ g_))) g_))) g_)) (pgo 1)
   (g0 (OQ T cdv A outer s H E hr _ rfl) (g0 (OR T cdv A outer s H E hr _ rfl) (g0 (OS T cdv A outer s H E hr _ rfl) (g0 (OT T cdv A outer s H E hr _ rfl) (g0 (OU T cdv A outer s H E hr _ rfl) (g0 (OV T cdv A outer s H E hr _ rfl) (iS (OW T cdv A outer s H E hr _ rfl) (iS (OX T cdv A outer s H E hr _ rfl) (iS (OY T cdv A outer s H E hr _ rfl) (iH (OZ T cdv A outer s H E hr _ rfl)))))))))))
theorem JR:PSs (XL P w K mg base T cdv A outer s H E) (iL mY) (lA K):=by obtain⟨s0,s1,s2,s3,s4,e,h0,h1,h2,h3,h4⟩:=QA (iL mY) rfl;rw[e];exact g0 (M1 T cdv A outer s H E hr s0 h0) (g0 (O7 T cdv A outer s H E hr s1 h1) (g0 (O1 T cdv A outer s H E hr s2 h2) (iS (O2 T cdv A outer s H E hr s3 h3) (iH (O3 T cdv A outer s H E hr s4 h4)))))
end
theorem M3 (T:Txt K mg):OkT P w base T.uw 8 (Dm K):=by
 refine T.uw.F.ok lK (λ vs H Q E h=>?_) (λ cdv A outer s H vs Q E hr h=>?_)
 ·obtain⟨a,ns,rfl,_⟩:=h;rfl
 ·obtain⟨a0,ns,rfl,hS,h63,q⟩:=h;exact⟨lA K,PSs.nox (JR T cdv A outer s H E hr),O8 hS h63 q⟩
end
end K01
end
namespace K01
open PySem PySem.Spec PyProof.Rows L2 Zp
theorem all_mk {l:PySem.W.OpenLaw}{w:World}{K:gG}{mg:gD}{fa:Addr}(T:Txt K mg)(hfa:mg "law"=My (.ref fa)):∃ fd:FuncData,(∀ (s:gJ) (v:gH),BindsTo s fd ⟨[v],[]⟩ [("_law_script",v)])/\∀ base:Heap,K.In base->base.Ns mainGlobals mg->pE l.prog w K mg base CX0 8 fa fd ["_law_script"] (Dm K):=by have e:=hfa.symm.trans T.uw.m;cases e;exact⟨_,λ s v=>.of_eq (T.uw.bb [v] rfl),λ _ _ _=>M3 T⟩
theorem walk {l:PySem.W.OpenLaw}{q:Program}{loose:List Str}{XP:(Str->gF gH)->Heap->Prop}{YP:World->Heap->Prop}{d:DefRec}{K:Params->gG}(hn:l.most=My 63)(hdf:d.params.defaults=[])
  (hY:∀ (w:World) (h:Heap),YP w h->(K w.params).In h)
  (F:∀ (w:World) (mg:gD) (fa:Addr) (h:Heap),(K w.params).In h->h.Ns mainGlobals mg->mg d.name=My (.ref fa) ->
   ∃ fd:FuncData,(∀ (s:gJ) (u:gH),BindsTo s fd ⟨[u],[]⟩ [("_law_script",u)])/\∀ base:Heap,(K w.params).In base->base.Ns mainGlobals mg->pE l.prog w (K w.params) mg base CX0 8 fa fd ["_law_script"] (Dm (K w.params))) :
  PySem.W.WalkO q loose XP YP l.row.toRowW d [] (λ f vs=>PySem.call f vs) :=
 L2.CB (n:=63) (k:=8) (x:="_law_script") (CX:=λ _=>CX0) (sp:=λ w=>Dm (K w.params)) hn (by decide) hdf ⟨rfl,by decide,by decide,rfl⟩ hY F (λ _ _ a ns hl _ hS=>⟨a,ns,rfl,hS,hl,λ _=>rfl⟩) λ _ _ _ _ _ z=>z
end K01
end Internal
open Internal
namespace PySem.W.Fast
theorem tw13376589981018579852:True:=trivial
theorem tw1974074823385357306:True:=trivial
theorem tw13581146353634542349:True:=trivial
theorem tw17524482673778666203:True:=trivial
theorem tw6832812244162439054:True:=trivial
theorem tw16238036752523042292:True:=trivial
theorem tw8775570037201543482:True:=trivial
theorem tw9311571069599491294:True:=trivial
theorem tw7593974570187416911:True:=trivial
theorem tw16571869762574151855:True:=trivial
theorem tw8449317263290460736:True:=trivial
theorem tw2931251747938484180:True:=trivial
theorem tw3324181704286346582:True:=trivial
theorem tw7768224339241474019:True:=trivial
theorem tw11663901269230811374:True:=trivial
theorem tw15292535595316338382:True:=trivial
theorem tw10769078513029845430:True:=trivial
theorem tw1287934256245257070:True:=trivial
theorem tw2938505780313866791:True:=trivial
theorem tw8948398393662647546:True:=trivial
theorem tw9905613247534666179:True:=trivial
theorem tw8655083893569150860:True:=trivial
theorem tw12186644373084016377:True:=trivial
theorem tw17299567945283478288:True:=trivial
theorem tw9732326735198695215:True:=trivial
theorem tw1563928411853383378:True:=trivial
theorem tw15489199241529485745:True:=trivial
theorem tw9521301413585072524:True:=trivial
theorem tw5988675552550137101:True:=trivial
theorem tw5550024109895320078:True:=trivial
theorem tw5158298058182871610:True:=trivial
theorem tw16627977503252449317:True:=trivial
theorem tw1100051450505951046:True:=trivial
theorem tw14660945032482426382:True:=trivial
theorem tw12212155659086525935:True:=trivial
theorem tw10170704853500220949:True:=trivial
theorem tw13179080446157595375:True:=trivial
theorem tw15654212140954220844:True:=trivial
theorem tw1712673552006839052:True:=trivial
theorem tw7490277992278101947:True:=trivial
theorem tw6844438110239981899:True:=trivial
theorem tw8130440397434812048:True:=trivial
theorem tw3585730756601794792:True:=trivial
theorem tw13939266815251528689:True:=trivial
theorem tw3743442327715003147:True:=trivial
theorem tw650269665947547382:True:=trivial
theorem tw15407007819041229150:True:=trivial
theorem tw4244454400294733843:True:=trivial
theorem tw14118106395671876533:True:=trivial
theorem tw8000983405999635282:True:=trivial
theorem tw15276859763693270939:True:=trivial
theorem tw1993916699838387587:True:=trivial
theorem tw1005922984155141548:True:=trivial
theorem tw17676972180624551364:True:=trivial
theorem tw5217183602087258002:True:=trivial
end PySem.W.Fast
open PySem PySem.W PyProof.Rows
set_option maxRecDepth 100000 in
set_option maxHeartbeats 0 in
theorem PySem.Challenge.cw_treewalkers_k01_what_is_a_web_holds : PySem.Challenge.rw_treewalkers_k01_what_is_a_web.Holds := by
 w_on;o_law;k_head;(case hw=>w_witness2)
 k_fill
 refine K01.walk (l:=PySem.Challenge.rw_treewalkers_k01_what_is_a_web) rfl rfl (λ w h Y=>PySem.W.kIn_of Y) ?F
 case F =>
  intro w mg fa h KX G hmg
  refine' K01.all_mk ⟨L2.fnT KX G ?_ ?_ ?_ ?_,L2.fnT KX G ?_ ?_ ?_ ?_,L2.fnT KX G ?_ ?_ ?_ ?_,L2.fnT KX G ?_ ?_ ?_ ?_,L2.fnT KX G ?_ ?_ ?_ ?_,L2.fnT KX G ?_ ?_ ?_ ?_,L2.fnT KX G ?_ ?_ ?_ ?_,L2.fnT KX G ?_ ?_ ?_ ?_,L2.fnT KX G ?_ ?_ ?_ ?_,L2.fnT KX G ?_ ?_ ?_ ?_,L2.fnT KX G ?_ ?_ ?_ ?_,L2.fnT KX G ?_ ?_ ?_ ?_,L2.fnT KX G ?_ ?_ ?_ ?_,L2.fnT KX G ?_ ?_ ?_ ?_,L2.fnT KX G ?_ ?_ ?_ ?_,L2.fnT KX G ?_ ?_ ?_ ?_,L2.fnT KX G ?_ ?_ ?_ ?_,L2.fnT KX G ?_ ?_ ?_ ?_,L2.fnT KX G ?_ ?_ ?_ ?_,L2.fnT KX G ?_ ?_ ?_ ?_,L2.fnT KX G ?_ ?_ ?_ ?_,L2.fnT KX G ?_ ?_ ?_ ?_,L2.fnT KX G ?_ ?_ ?_ ?_,L2.fnT KX G ?_ ?_ ?_ ?_,L2.fnT KX G ?_ ?_ ?_ ?_,L2.fnT KX G ?_ ?_ ?_ ?_,PySem.W.mg_none_of KX G ?_,PySem.W.mg_none_of KX G ?_,PySem.W.mg_none_of KX G ?_,PySem.W.mg_none_of KX G ?_,PySem.W.mg_none_of KX G ?_,PySem.W.mg_none_of KX G ?_,PySem.W.mg_none_of KX G ?_,PySem.W.mg_none_of KX G ?_,PySem.W.mg_none_of KX G ?_,PySem.W.mg_none_of KX G ?_,PySem.W.mg_none_of KX G ?_,PySem.W.mg_none_of KX G ?_,PySem.W.mg_none_of KX G ?_,PySem.W.mg_none_of KX G ?_,PySem.W.mg_none_of KX G ?_,L2.ctI KX G ?_,L2.ctI KX G ?_,⟨L2.wtT KX G ?_ ?_ ?_ ?_ ?_,L2.ecT KX G ?_ ⟨?_,?_,⟨?_,?_,?_,?_,?_,?_,?_,?_⟩⟩,L2.ecT KX G ?_ ⟨?_,?_,⟨?_,?_,?_,?_,?_,?_,?_,?_⟩⟩,L2.ecT KX G ?_ ⟨?_,?_,⟨?_,?_,?_,?_,?_,?_,?_,?_⟩⟩,L2.ecT KX G ?_ ⟨?_,?_,⟨?_,?_,?_,?_,?_,?_,?_,?_⟩⟩,L2.ecT KX G ?_ ⟨?_,?_,⟨?_,?_,?_,?_,?_,?_,?_,?_⟩⟩,L2.ecT KX G ?_ ⟨?_,?_,⟨?_,?_,?_,?_,?_,?_,?_,?_⟩⟩,L2.ecT KX G ?_ ⟨?_,?_,⟨?_,?_,?_,?_,?_,?_,?_,?_⟩⟩,L2.ecT KX G ?_ ⟨?_,?_,⟨?_,?_,?_,?_,?_,?_,?_,?_⟩⟩,L2.ecT KX G ?_ ⟨?_,?_,⟨?_,?_,?_,?_,?_,?_,?_,?_⟩⟩,L2.ecT KX G ?_ ⟨?_,?_,⟨?_,?_,?_,?_,?_,?_,?_,?_⟩⟩,L2.ecT KX G ?_ ⟨?_,?_,⟨?_,?_,?_,?_,?_,?_,?_,?_⟩⟩,L2.ecT KX G ?_ ⟨?_,?_,⟨?_,?_,?_,?_,?_,?_,?_,?_⟩⟩,L2.ecT KX G ?_ ⟨?_,?_,⟨?_,?_,?_,?_,?_,?_,?_,?_⟩⟩,L2.ecT KX G ?_ ⟨?_,?_,⟨?_,?_,?_,?_,?_,?_,?_,?_⟩⟩,L2.ecT KX G ?_ ⟨?_,?_,⟨?_,?_,?_,?_,?_,?_,?_,?_⟩⟩,?_⟩⟩ hmg
  any_goals k_is
  all_goals (try dsimp only [L2.ecT,L2.wtT])
  all_goals (try k_is)
  all_goals (try rfl)
  all_goals (try with_unfolding_all rfl)
  all_goals decide
