import PyProof.Rows.All
import Wide.All
import OpenK.AllK
import Wide.FinOn
import Lean
import PyProof.EqAt
import PyProof.EqKinds
import PyProof.TupleCall
import PyProof.NeKinds
import PyProof.WalkInts
import PyProof.SumWalkG
import KE.IntBitsLaws
import PyProof.FString
import PyProof.StrBlock
import KE.KxWritten
import KE.KxText
import PyProof.SliceStr2
import PySem.Challenge.RW_treewalkers_k44_whole_streams
set_option Elab.async false
set_option linter.all false
set_option tactic.hygienic false
set_option maxRecDepth 100000
set_option exponentiation.threshold 10000
set_option maxHeartbeats 4000000
namespace Internal
noncomputable section
open PySem renaming wpAny_bind->aa,wpAny_pure->ao,boot_len->bT,wpAny_newObj_type->cu,wpAny_truthy_bool->cx,wpAny_setState_of->cA,wpAny_callSpecial?_slot->cB,wpAny_call_entry->cH,wpAny_field->cN,wpAny_seqItems->cZ,wpAny_holding->dF,mem_of_lookup->dU,wpAny_setField_rec->d_,wpAny_passesOwn->ee,wpAny_mono->fh,wpAny_pyIter_list->fJ,wpAny_setField->fL,wpAny_updateSeq_pair->gq,wpAny_execs_nil->gx,wpAny_Call_Name_kw->gK,wpAny_standAt->gX,wpAny_attempt->gZ,wpAny_onRaise->g0
open Option renaming bind_some->ae,map_some->bP,join_some->dB,getD_some->ft,isSome_map->gT
open List renaming length_map->ag,map_cons->aq,mem_cons_self->ar,getD_eq_getElem?_getD->au,mem_cons_of_mem->av,mem_range->aw,getElem?_map->ax,getElem?_eq_getElem->aC,mem_map->aD,map_map->aH,map_congr_left->aK,size_toArray->aM,mem_cons->aN,sum_cons->aP,length_cons->aQ,length_append->aT,mem_filter->aY,map_append->a7,mem_of_getElem?->a8,mem_append_right->a9,getElem?_range->a_,getElem?_eq_some_iff->ba,nodup_iff_pairwise_ne->bc,getElem?_cons_succ->bh,nodup_range->bj,getElem?_eq_none->bq,lookup_cons->br,nodup_cons->bx,mem_singleton->bA,getElem?_cons_zero->bE,length_singleton->bF,mem_append->bG,length_range->bJ,mem_append_left->bL,getElem?_set_ne->bM,getElem?_append_right->bS,getElem_of_mem->bV,getElem?_append_left->bW,length_nil->cn,not_mem_nil->cv,pairwise_map->cy,append_nil->cF,foldl_cons->cG,getElem_mem->cJ,getElem?_set_self->cW,filterMap_cons->da,replicate_succ->de,length_pos_iff->dh,pairwise_iff_getElem->dw,all_eq_true->dz,countP_cons->dE,map_nil->dH,length_eq_zero_iff->dP,filter_cons_of_pos->dR,filter_cons_of_neg->dS,length_take->dZ,cons_append->d3,of_mem_zip->eh,find?_cons->eu,flatten_cons->eG,append_assoc->eJ,take_succ->eT,mem_filterMap->eU,zip_cons_cons->eV,take_of_length_le->eZ,range_succ->fb,take_length->fu,drop_eq_getElem_cons->fw,getElem?_take_of_lt->fx,length_zip->fA,pairwise_cons->fE,getElem?_replicate->fF,findIdx?_eq_some_iff_getElem->fG,ext_getElem?->fM,length_filter_le->fS,any_eq_true->fZ,any_toArray->f9,eq_nil_of_length_eq_zero->gr,nil_append->gu,length_set->gy,countP_eq_zero->gF,all_map->gH,set_cons_succ->gN,set_cons_zero->gO,map_singleton->gP,getElem?_zip_eq_some->gQ,mem_or_eq_of_mem_set->gS,forIn_cons->hU,forIn_nil->ie,map_id->ip
open PySem.Heap renaming get?_push_of_some->ai,lt_size->aE,get?_push_size->aS,size_push->cQ,get?_update_self->ed,get?_none_of_le->gm
open Nat renaming le_refl->ak,lt_of_lt_of_le->aJ,le_trans->bf,zero_le->bg,ne_of_lt->bw,lt_irrefl->bD,pow_le_pow_right->bN,lt_of_le_of_lt->bR,mul_le_mul->cE,le_of_lt_succ->cP,ne_of_gt->cX,mul_le_mul_left->dX,not_lt_zero->eA,mul_le_mul_right->eO,le_add_right->eS,le_mul_of_pos_left->e_,pow_lt_pow_right->fi,mul_pos->fk,le_of_lt->fq,not_lt->fC,lt_succ_of_lt->fK,le_of_ble_eq_true->fU,le_of_not_lt->fX,mod_lt->fY,max_eq_right->f6,min_eq_right->f7,min_eq_left->gA,max_eq_left->gD,le_of_eq->gG,lt_trichotomy->gU,lt_succ_self->g6,succ_mul->g9,succ_pos->g_,lt_or_ge->hG,gcd_comm->hJ,le_succ->ib,pow_add->il
open Option.some renaming inj->aF
open Bool renaming false_ne_true->aI,false_eq_true->aW,eq_iff_iff->bH,and_eq_true->cS,not_true->dJ,or_eq_true_iff->gE,and_false->gL,not_false->gM,false_and->h_
open Classical renaming byContradiction->aR
open List.Nodup renaming length_le_of_subset->aU
open Ne renaming symm->aX
open PySem.W renaming mg_none_of->bB,mg_of->gY
open PySem.PassesOwn renaming never->bC
open Array renaming getD_eq_getD_getElem?->bK,getElem?_toList->bU,length_toList->cL,getElem?_eq_some_iff->cY,getElem?_eq_none->eX
open Int renaming toNat_natCast->bQ,emod_nonneg->bX,emod_lt_of_pos->cC,natAbs_mul->fO,fdiv_eq_ediv_of_nonneg->gJ,natAbs_ediv_le_natAbs->gR
open Rat renaming mul_inv_cancel->bZ,intCast_natCast->cf,divInt_ofNat->cw,intCast_mul->cR,natCast_add->di,mkRat_self->dO,intCast_le_intCast->dY,natCast_pos->eE,intCast_sub->fc,intCast_add->fe,divInt_eq_div->fg,div_def->gf,mul_eq_zero->gw,natCast_mul->hV,mul_nonneg->hW,inv_pos->hX,pow_nonneg->hZ
open PySem.AutoSeq1 renaming wpAny_loadPart'->b_
open PySem.F renaming plainAttrs_list->cT,slot_list_append->dM,type_list_append->dN,slot_tuple_iterator_next->d9,called_set->eY,slot_zip_next->gz
open PyProof.Rows renaming callWith_type1->cU,slot_tuple_getitem->eQ
open PySem.List renaming filterMap_getElem?_range_length->c_
open PySem.Heap.SameBut renaming update->df
open PySem.Obj renaming data_mapFields->d4,isFreed_of_fields->fR,cls_mapFields->gW
open PyProof.Rows.KeyOrd renaming kle_refl->eD,kle_of_klt->eK,kle_trans->fv,kle_of_not_klt->fQ
open Function renaming comp_def->eM
open List.Pairwise renaming imp_of_mem->eP
open PySem.SetTable renaming toList_insertAt->fy
open PySem.Value renaming isInt_shape->fH
open PySem.Paired renaming length->f_
open List.Perm renaming refl->ic
abbrev af:=@if_pos
abbrev ah:=@if_neg
abbrev bY:=@if_false
abbrev cK:=@congrArg
abbrev cM:=@if_true
abbrev iq:=PySem.Str->Option PySem.Value
abbrev ir:=PySem.Value->PySem.Shared->Prop
abbrev iA:=Option
abbrev iF:=PySem.W.Frag
abbrev iG:=PySem.Value
abbrev iH:=PySem.Shared
abbrev iI:=List (Nat×Nat)
abbrev iJ:=List (PySem.Addr×PySem.Obj)
local macro_rules | `(tactic| trivial)=>`(tactic| first | exact .inl rfl | exact .inr rfl | exact Or.inl rfl | exact Or.inr (Or.inl rfl) | exact Or.inr (Or.inr rfl) | exact Or.inr rfl | (show List.Nodup (_::_);decide +kernel) | exact⟨rfl,rfl,rfl,by decide +kernel,rfl,by decide +kernel,by decide +kernel⟩ | assumption)
namespace Qs
def S (n:Nat)(f:Nat->Nat):Nat:=((List.range n).map f).sum
theorem qr (n:Nat)(f:Nat->Nat):S (n+1) f=S n f+f n:=by unfold S;rw[fb,a7,List.sum_append];simp
theorem xi {n:Nat}{f g:Nat->Nat}(h:∀ i,i<n->f i=g i):S n f=S n g:=by
 induction n with
 | zero=>rfl
 | succ n ih=>rw[qr,qr,ih λ i hi=>h i (by lia),h n (by lia)]
theorem I8 (n:Nat)(f g:Nat->Nat):S n (λ i=>f i+g i)=S n f+S n g:=by
 induction n with
 | zero=>rfl
 | succ n ih=>rw[qr,qr,qr,ih];lia
theorem Cu (n:Nat):S n (λ _=>0)=0:=by
 induction n with
 | zero=>rfl
 | succ n ih=>rw[qr,ih]
theorem N8 {n a:Nat}(h:a<n)(f:Nat->Nat):S n (λ i=>if i=a then f i else 0)=f a:=by
 induction n with
 | zero=>lia
 | succ n ih =>
  rw[qr];by_cases e:a=n
  ·subst e;rw[af rfl];have:S a (λ i=>if i=a then f i else 0)=0:=(xi (g:=λ _=>0) λ i hi=>ah (by lia)).trans (Cu a);rw[this];lia
  ·rw[ih (by lia),ah (aX e)];rfl
section
variable (n:Nat)(A:Nat->Nat->Nat)(wt:Nat->Nat)
end
end Qs
namespace Dt0
def exs (v:Nat->Rat)(D:List Nat->Rat):List Nat->List Nat->List Nat->Rat
 | _,[],_=>0
 | q,c::l,s=>v c*D (q++l++s)-exs v D (q++[c]) l s
def sg:List Nat->Rat
 | []=>1
 | _::l=>- sg l
theorem AY (v:Nat->Rat)(D:List Nat->Rat)(l2 s:List Nat):∀ (l1 q:List Nat),exs v D q (l1++l2) s=exs v D q l1 (l2++s)+sg l1*exs v D (q++l1) l2 s
 | [],q=>by simp[exs,sg];grind
 | c::l1,q=>by
  show v c*D (q++(l1++l2)++s)-exs v D (q++[c]) (l1++l2) s=v c*D (q++l1++(l2++s))-exs v D (q++[c]) l1 (l2++s)+- sg l1*exs v D (q++c::l1) l2 s;rw[AY v D l2 s l1 (q++[c])];have e1:q++(l1++l2)++s=q++l1++(l2++s):=by simp
  have e2:q++[c]++l1=q++c::l1:=by simp
  rw[e1,e2];grind
theorem F3 (a b:Rat)(u v:Nat->Rat)(D:List Nat->Rat)(s:List Nat):∀ (l q:List Nat),exs (λ j=>a*u j+b*v j) D q l s=a*exs u D q l s+b*exs v D q l s
 | [],q=>by simp[exs];grind
 | c::l,q=>by show(a*u c+b*v c)*_-exs _ D (q++[c]) l s=a*(u c*_-exs u D (q++[c]) l s)+b*(v c*_-exs v D (q++[c]) l s);rw[F3 a b u v D s l (q++[c])];grind
theorem N9 (v:Nat->Rat)(a b:Rat)(D D':List Nat->Rat)(s:List Nat):∀ (l q:List Nat),exs v (λ ds=>a*D ds+b*D' ds) q l s=a*exs v D q l s+b*exs v D' q l s
 | [],q=>by simp[exs];grind
 | c::l,q=>by show v c*_-exs v _ (q++[c]) l s=a*(v c*_-exs v D (q++[c]) l s)+b*(v c*_-exs v D' (q++[c]) l s);rw[N9 v a b D D' s l (q++[c])];grind
theorem AZ (v:Nat->Rat)(D:List Nat->Rat)(t s:List Nat):∀ (l q:List Nat),exs v (λ ds=>D (ds++t)) q l s=exs v D q l (s++t)
 | [],q=>rfl
 | c::l,q=>by show v c*D (q++l++s++t)-exs v _ (q++[c]) l s=v c*D (q++l++(s++t))-exs v D (q++[c]) l (s++t);rw[AZ v D t s l (q++[c])];simp
theorem u9 (v:Nat->Rat)(s:List Nat):∀ (l q:List Nat),exs v (λ _=>0) q l s=0
 | [],q=>rfl
 | c::l,q=>by show v c*0-exs v _ (q++[c]) l s=0;rw[u9 v s l (q++[c])];grind
def sS (v u:Nat->Rat)(D:List Nat->Rat):List Nat->List Nat->Rat
 | _,[]=>0
 | pre,c::cs=>sg pre*(v c*exs u D pre cs []-u c*exs v D pre cs [])-sS v u D (pre++[c]) cs
theorem F4 (v u:Nat->Rat)(D:List Nat->Rat):∀ (cs pre:List Nat),sS v u D pre cs=- sS u v D pre cs
 | [],pre=>by simp[sS]
 | c::cs,pre=>by show sg pre*(v c*exs u D pre cs []-u c*exs v D pre cs [])-sS v u D (pre++[c]) cs=- (sg pre*(u c*exs v D pre cs []-v c*exs u D pre cs [])-sS u v D (pre++[c]) cs);rw[F4 v u D cs (pre++[c])];grind
theorem xF (v u:Nat->Rat)(D:List Nat->Rat):∀ (cs pre:List Nat),exs v (λ ds=>exs u D [] ds []) pre cs []=sS v u D pre cs+exs u (λ ds=>exs v D ds cs []) [] pre []
 | [],pre=>by show(0:Rat)=0+exs u (λ ds=>0) [] pre [];rw[u9];grind
 | c::cs,pre=>by
  show v c*exs u D [] (pre++cs++[]) []-exs v (λ ds=>exs u D [] ds []) (pre++[c]) cs []=sg pre*(v c*exs u D pre cs []-u c*exs v D pre cs [])-sS v u D (pre++[c]) cs+exs u (λ ds=>v c*D (ds++cs++[])-exs v D (ds++[c]) cs []) [] pre [];rw[xF v u D cs (pre++[c]),AY u (λ ds=>exs v D ds cs []) [c] [] pre []];have h1:=AY u D cs [] pre [];have h2:exs u (λ ds=>v c*D (ds++cs++[])-exs v D (ds++[c]) cs []) [] pre []=v c*exs u D [] pre cs-exs u (λ ds=>exs v D ds cs []) [] pre [c]:=by
   have:=N9 u (v c) (-1) (λ ds=>D (ds++cs)) (λ ds=>exs v D (ds++[c]) cs []) [] pre [];have e:(λ ds=>v c*D (ds++cs++[])-exs v D (ds++[c]) cs [])=λ ds=>v c*D (ds++cs)+-1*exs v D (ds++[c]) cs []:=by funext ds;rw[cF];grind
   rw[e,this,AZ u D cs [] pre [],AZ u (λ ds=>exs v D ds cs []) [c] [] pre []];simp only[gu];grind
  rw[h2];simp only[cF,gu]at *;rw[h1];have e3:exs u (λ ds=>exs v D ds cs []) pre [c] []=u c*exs v D pre cs []-0:=by show u c*exs v D (pre++[]++[]) cs []-0=_;simp
  rw[e3];grind
def dt:List (Nat->Rat)->List Nat->Rat
 | [],_=>1
 | v::R,cs=>exs v (dt R) [] cs []
theorem F5 (v u:Nat->Rat)(R:List (Nat->Rat))(cs:List Nat):dt (v::u::R) cs=- dt (u::v::R) cs:=by show exs v (λ ds=>exs u (dt R) [] ds []) [] cs []=- exs u (λ ds=>exs v (dt R) [] ds []) [] cs [];rw[xF v u (dt R) cs [],xF u v (dt R) cs [],F4];show-sS u v (dt R) [] cs+0=- (sS u v (dt R) [] cs+0);grind
theorem N_ (v:Nat->Rat):∀ (R:List (Nat->Rat)) (cs:List Nat),v∈R->dt (v::R) cs=0
 | [],_,h=>by cases h
 | u::R,cs,h=>by
  by_cases e:v=u
  ·subst e;have:=F5 v v R cs;grind
  ·have hm:v∈R:=(aN.mp h).elim (λ z=>absurd z e) id
   rw[F5];show-exs u (λ ds=>dt (v::R) ds) [] cs []=0;have:(λ ds=>dt (v::R) ds)=λ _=>(0:Rat):=by funext ds;exact N_ v R ds hm
   rw[this,u9];grind
theorem I9 (a b:Rat)(u v:Nat->Rat)(R:List (Nat->Rat))(cs:List Nat):dt ((λ j=>a*u j+b*v j)::R) cs=a*dt (u::R) cs+b*dt (v::R) cs:=F3 a b u v (dt R) [] cs []
def IsZ (x:Rat):Prop:=∃ z:Int,x=z
theorem IsZ.mul {x y:Rat}(h:IsZ x)(h':IsZ y):IsZ (x*y):=by obtain⟨a,rfl⟩:=h;obtain⟨b,rfl⟩:=h';exact⟨a*b,by rw[cR]⟩
theorem IsZ.sub {x y:Rat}(h:IsZ x)(h':IsZ y):IsZ (x-y):=by obtain⟨a,rfl⟩:=h;obtain⟨b,rfl⟩:=h';exact⟨a-b,by rw[fc]⟩
theorem F6 {v:Nat->Rat}{D:List Nat->Rat}(hv:∀ j,IsZ (v j))(hD:∀ ds,IsZ (D ds))(s:List Nat):∀ (l q:List Nat),IsZ (exs v D q l s)
 | [],q=>⟨0,rfl⟩
 | c::l,q=>((hv c).mul (hD _)).sub (F6 hv hD s l (q++[c]))
theorem Ez:∀ (R:List (Nat->Rat)) (cs:List Nat),(∀ v∈R,∀ j,IsZ (v j))->IsZ (dt R cs)
 | [],_,_=>⟨1,rfl⟩
 | v::R,cs,h=>F6 (h v ar) (λ ds=>Ez R ds λ u hu=>h u (av _ hu)) [] cs []
theorem A0 {v:Nat->Rat}{D:List Nat->Rat}{s:List Nat}:∀ (l q:List Nat),(∀ c∈l,v c=0)->exs v D q l s=0
 | [],q,_=>rfl
 | c::l,q,h=>by show v c*_-exs v D (q++[c]) l s=0;rw[h c ar,A0 l (q++[c]) λ d hd=>h d (av _ hd)];grind
theorem u_ {v:Nat->Rat}{R:List (Nat->Rat)}{j:Nat}{cs:List Nat}(h:∀ c∈cs,v c=0):dt (v::R) (j::cs)=v j*dt R cs:=by show v j*dt R ([]++cs++[])-exs v (dt R) ([]++[j]) cs []=_;rw[A0 cs _ h];simp;grind
end Dt0
namespace Dt0
def sm:Nat->(Nat->Rat)->Rat
 | 0,_=>0
 | n+1,f=>sm n f+f n
theorem qt (a b:Rat)(f g:Nat->Rat):∀ n,sm n (λ r=>a*f r+b*g r)=a*sm n f+b*sm n g
 | 0=>by simp[sm];grind
 | n+1=>by show sm n _+_=a*(sm n f+f n)+b*(sm n g+g n);rw[qt a b f g n];grind
theorem j8 {f g:Nat->Rat}:∀ {n:Nat},(∀ r,r<n->f r=g r)->sm n f=sm n g
 | 0,_=>rfl
 | n+1,h=>by show sm n f+f n=sm n g+g n;rw[j8 λ r hr=>h r (by lia),h n (by lia)]
theorem rH:∀ n,sm n (λ _=>0)=0
 | 0=>rfl
 | n+1=>by show sm n _+0=0;rw[rH n];grind
theorem I_ (a:Rat)(f:Nat->Rat)(n:Nat):sm n (λ r=>a*f r)=a*sm n f:=by
 have:=qt a 0 f (λ _=>0) n;have e:(λ r=>a*f r+0*(λ _=>(0:Rat)) r)=λ r=>a*f r:=by funext r;grind
 rw[e]at this;rw[this];grind
theorem F7 (F:Nat->Nat->Rat)(m:Nat):∀ n,sm n (λ i=>sm m (λ j=>F i j))=sm m (λ j=>sm n (λ i=>F i j))
 | 0=>by show(0:Rat)=sm m (λ j=>0);rw[rH]
 | n+1=>by
  show sm n _+sm m (λ j=>F n j)=sm m (λ j=>sm n (λ i=>F i j)+F n j);rw[F7 F m n];have:=qt 1 1 (λ j=>sm n (λ i=>F i j)) (λ j=>F n j) m;have e:(λ j=>1*sm n (λ i=>F i j)+1*F n j)=λ j=>sm n (λ i=>F i j)+F n j:=by funext r;grind
  rw[e]at this;rw[this];grind
theorem qu {f:Nat->Rat}{i:Nat}:∀ {n:Nat},i<n->(∀ r,r<n->r≠i->f r=0)->sm n f=f i
 | 0,h,_=>by lia
 | n+1,h,hz=>by
  show sm n f+f n=f i;by_cases e:i=n
  ·subst e;have:sm i f=sm i (λ _=>0):=j8 λ r hr=>hz r (by lia) (by lia);rw[this,rH];grind
  ·rw[qu (n:=n) (by lia) λ r hr ne=>hz r (by lia) ne,hz n (by lia) (by lia)];grind
section
variable (A:Nat->Nat->Rat)
def rd:Nat->Nat->Nat->Rat
 | 0=>A
 | k+1=>λ i j=>if i=k then rd k k j / rd k k k else rd k i j-rd k i k*(rd k k j / rd k k k)
def Rw:Nat->List (Nat->Rat)
 | 0=>[]
 | k+1=>A k::Rw k
def Ck:Nat->List Nat
 | 0=>[]
 | k+1=>k::Ck k
def Sp (k:Nat)(f:Nat->Rat):Prop:=∃ c:Nat->Rat,∀ j,f j=sm k (λ r=>c r*A r j)
def Dk (k:Nat):Rat:=dt (Rw A k) (Ck k)
variable {A}
theorem xG:∀ {k c:Nat},c∈Ck k->c<k
 | 0,c,h=>by cases h
 | k+1,c,h=>(aN.mp h).elim (λ e=>by lia) λ h=>by have:=xG h;lia
theorem Ja:∀ {k r:Nat},r<k->A r∈Rw A k
 | 0,r,h=>by lia
 | k+1,r,h=>by
  by_cases e:r=k
  ·subst e;exact ar
  ·exact av _ (Ja (by lia))
theorem Sp.lin {k:Nat}{f g:Nat->Rat}(a b:Rat)(h:Sp A k f)(h':Sp A k g):Sp A k (λ j=>a*f j+b*g j):=by obtain⟨c,hc⟩:=h;obtain⟨d,hd⟩:=h';refine⟨λ r=>a*c r+b*d r,λ j=>?_⟩;show a*f j+b*g j=sm k (λ r=>(a*c r+b*d r)*A r j);rw[hc,hd,<-qt];exact j8 λ r _=>by grind
theorem Sp.up {k:Nat}{f:Nat->Rat}(h:Sp A k f):Sp A (k+1) f:=by
 obtain⟨c,hc⟩:=h;refine⟨λ r=>if r=k then 0 else c r,λ j=>?_⟩;show f j=sm k _+(if k=k then 0 else c k)*A k j;rw[af rfl,hc];have:sm k (λ r=>c r*A r j)=sm k (λ r=>(if r=k then 0 else c r)*A r j):=j8 λ r hr=>by rw[ah (by lia)]
 rw[this];grind
theorem Sp.self (k:Nat):Sp A (k+1) (A k):=by
 refine⟨λ r=>if r=k then 1 else 0,λ j=>?_⟩;show A k j=sm k _+(if k=k then 1 else 0)*A k j;have:sm k (λ r=>(if r=k then (1:Rat) else 0)*A r j)=sm k (λ _=>0):=j8 λ r hr=>by rw[ah (by lia)];grind
 rw[af rfl,this,rH];grind
theorem Sp.EA {k:Nat}{f g:Nat->Rat}(h:Sp A k f)(e:∀ j,g j=f j):Sp A k g:=by obtain⟨c,hc⟩:=h;exact⟨c,λ j=>(e j).trans (hc j)⟩
theorem Jb (c:Nat->Rat)(R:List (Nat->Rat))(cs:List Nat):∀ (m:Nat),(∀ r,r<m->A r∈R)->dt ((λ j=>sm m (λ r=>c r*A r j))::R) cs=0
 | 0,_=>A0 cs [] λ _ _=>rfl
 | m+1,h=>by
  have e:(λ j=>sm (m+1) (λ r=>c r*A r j))=λ j=>1*sm m (λ r=>c r*A r j)+c m*A m j:=by funext j;show sm m _+c m*A m j=_;grind
  rw[e,I9,Jb c R cs m λ r hr=>h r (by lia),N_ (A m) R cs (h m (by lia))];grind
theorem Sp.dt {k:Nat}{f:Nat->Rat}(h:Sp A k f)(cs:List Nat):Dt0.dt (f::Rw A k) cs=0:=by obtain⟨c,hc⟩:=h;have e:f=λ j=>sm k (λ r=>c r*A r j):=funext hc;rw[e];exact Jb c _ cs k λ r hr=>Ja hr
theorem xH {k:Nat}{v w:Nat->Rat}(h:Sp A k (λ j=>v j-w j))(cs:List Nat):Dt0.dt (v::Rw A k) cs=Dt0.dt (w::Rw A k) cs:=by
 have e:v=λ j=>1*w j+1*(v j-w j):=by funext j;grind
 have:=I9 1 1 w (λ j=>v j-w j) (Rw A k) cs;rw[<-e,h.dt]at this;rw[this];grind
structure Eli (A:Nat->Nat->Rat)(k:Nat):Prop where
 z:∀ i c,k<=i->c<k->rd A k i c=0
 o:∀ i c,i<k->c<k->rd A k i c=if i=c then 1 else 0
 s:∀ i,k<=i->Sp A k (λ j=>A i j-rd A k i j)
 t:∀ i,i<k->Sp A k (rd A k i)
theorem Jc {k:Nat}(e:Eli A k)(p:rd A k k k≠0):Eli A (k+1):=by
 have pp:rd A k k k / rd A k k k=1:=by grind
 have self:∀ j,rd A (k+1) k j=rd A k k j / rd A k k k:=λ j=>by show(if k=k then _ else _)=_;rw[af rfl]
 have other:∀ i j,i≠k->rd A (k+1) i j=rd A k i j-rd A k i k*(rd A k k j / rd A k k k):=λ i j h=>by show(if i=k then _ else _)=_;rw[ah h]
 have own:Sp A (k+1) (rd A k k):=by have:=Sp.lin 1 (-1) (Sp.self k) (e.s k (ak _)).up;exact this.EA λ j=>by grind
 refine⟨λ i c hi hc=>?_,λ i c hi hc=>?_,λ i hi=>?_,λ i hi=>?_⟩
 ·rw[other i c (by lia)]
  by_cases ck:c=k
  ·subst ck;rw[pp];grind
  ·rw[e.z i c (by lia) (by lia),e.z k c (ak _) (by lia)];grind
 ·by_cases ik:i=k
  ·subst ik
   rw[self];by_cases ck:c=i
   ·subst ck;rw[pp,af rfl]
   ·rw[e.z i c (ak _) (by lia),ah (by lia)];grind
  ·rw[other i c ik]
   by_cases ck:c=k
   ·subst ck;rw[pp,ah (by lia)];grind
   ·rw[e.o i c (by lia) (by lia),e.z k c (ak _) (by lia)];grind
 ·have:=Sp.lin 1 (rd A k i k / rd A k k k) (e.s i (by lia)).up own;exact this.EA λ j=>by rw[other i j (by lia)];grind
 ·by_cases ik:i=k
  ·subst ik;have:=Sp.lin (1 / rd A i i i) 0 own own;exact this.EA λ j=>by rw[self];grind
  ·have:=Sp.lin 1 (-(rd A k i k / rd A k k k)) (e.t i (by lia)).up own;exact this.EA λ j=>by rw[other i j ik];grind
theorem Jd:Eli A 0:=⟨λ i c _ h=>by lia,λ i c h _=>by lia,λ i _=>⟨λ _=>0,λ j=>by show A i j-A i j=0;grind⟩,λ i h=>by lia⟩
theorem eli {n:Nat}(p:∀ k,k<n->rd A k k k≠0):∀ k,k<=n->Eli A k
 | 0,_=>Jd
 | k+1,h=>Jc (eli p k (by lia)) (p k (by lia))
theorem F8 {k:Nat}(e:Eli A k):Dk A (k+1)=rd A k k k*Dk A k:=by show Dt0.dt (A k::Rw A k) (k::Ck k)=_;rw[xH (e.s k (ak _))];exact u_ λ c hc=>e.z k c (ak _) (xG hc)
theorem O8 (hz:∀ i j,IsZ (A i j))(k:Nat):IsZ (Dk A k):=Ez _ _ λ v hv=>by
 have:∀ k,v∈Rw A k->∃ r,v=A r:=λ k=>by
  induction k with
  | zero=>intro h;cases h
  | succ k ih=>intro h;exact(aN.mp h).elim (λ e=>⟨k,e⟩) ih
 obtain⟨r,rfl⟩:=this k hv;exact hz r
theorem Cv (hz:∀ i j,IsZ (A i j))(k:Nat){v:Nat->Rat}(hv:∀ j,IsZ (v j))(cs:List Nat):IsZ (Dt0.dt (v::Rw A k) cs):=by
 refine Ez _ _ λ u hu=>?_;rcases aN.mp hu with rfl | hu
 ·exact hv
 ·have:∀ k,u∈Rw A k->∃ r,u=A r:=λ k=>by
   induction k with
   | zero=>intro h;cases h
   | succ k ih=>intro h;exact(aN.mp h).elim (λ e=>⟨k,e⟩) ih
  obtain⟨r,rfl⟩:=this k hu;exact hz r
theorem L_ (hz:∀ i j,IsZ (A i j)){k:Nat}(e:Eli A k)(i j:Nat):IsZ (rd A k i j*Dk A k):=by
 by_cases hi:k<=i
 ·have h:=Cv hz k (hz i) (j::Ck k);rw[xH (e.s i hi),u_ λ c hc=>e.z i c hi (xG hc)]at h;exact h
 ·have hi:i<k:=by lia
  have hv:∀ j:Nat,IsZ ((λ j=>if j=i then (1:Rat) else 0) j):=λ j=>by
   show IsZ (if j=i then 1 else 0);split
   ·exact⟨1,rfl⟩
   ·exact⟨0,rfl⟩
  have h:=Cv hz k hv (j::Ck k);have sp:Sp A k (λ j=>(λ j=>if j=i then (1:Rat) else 0) j-((λ j=>if j=i then (1:Rat) else 0) j-rd A k i j)):=(e.t i hi).EA λ j=>by grind
  rw[xH (w:=λ j=>(if j=i then (1:Rat) else 0)-rd A k i j) sp,u_ λ c hc=>by
   rw[e.o i c hi (xG hc)];by_cases q:c=i
   ·rw[af q,af q.symm];grind
   ·rw[ah q,ah (aX q)];grind]at h
  have h2:=((hv j).mul (O8 hz k)).sub h;have e3:(λ j=>if j=i then (1:Rat) else 0) j*Dk A k-((if j=i then 1 else 0)-rd A k i j)*Dt0.dt (Rw A k) (Ck k)=rd A k i j*Dk A k:=by show _-((if j=i then 1 else 0)-rd A k i j)*Dk A k=_;grind
  rw[e3]at h2;exact h2
end
end Dt0
namespace Dt0
section
variable (a:Nat->Nat->Int)
def qA:Nat->Nat->Rat:=λ i j=>(a i j:Rat)
mutual
def Tz:Nat->Nat->Nat->Int
 | 0=>a
 | k+1=>λ i j=>if i=k then Tz k i j else (Tz k k k*Tz k i j-Tz k i k*Tz k k j) / fm k
def fm:Nat->Int
 | 0=>1
 | k+1=>Tz k k k
end
variable {a}
theorem cast_inj {x y:Int}(h:(x:Rat)=(y:Rat)):x=y:=Rat.intCast_inj.mp h
theorem Ae {n:Nat}(p:∀ k,k<n->rd (qA a) k k k≠0):∀ k,k<=n->(∀ i j,(Tz a k i j:Rat)=rd (qA a) k i j*Dk (qA a) k)/\(fm a k:Rat)=Dk (qA a) k/\Dk (qA a) k≠0
 | 0,_=>⟨λ i j=>by show(a i j:Rat)=(a i j:Rat)*1;grind,rfl,by show(1:Rat)≠0;decide⟩
 | k+1,h=>by
  obtain⟨h1,h2,h3⟩:=Ae p k (by lia);have ek:=eli p k (by lia);have ds:=F8 ek;have pk:=p k (by lia);have d1:Dk (qA a) (k+1)≠0:=by rw[ds];grind
  refine⟨λ i j=>?_,by show(Tz a k k k:Rat)=_;rw[h1,ds],d1⟩;by_cases hi:i=k
  ·subst hi;show((if i=i then Tz a i i j else _:Int):Rat)=(if i=i then rd (qA a) i i j / rd (qA a) i i i else _)*_;rw[af rfl,af rfl,h1,ds];grind
  ·show((if i=k then _ else (Tz a k k k*Tz a k i j-Tz a k i k*Tz a k k j) / fm a k:Int):Rat)=_
   rw[ah hi];obtain⟨z,hz⟩:=L_ (A:=qA a) (λ i j=>⟨a i j,rfl⟩) (eli p (k+1) h) i j;have hr:rd (qA a) (k+1) i j=rd (qA a) k i j-rd (qA a) k i k*(rd (qA a) k k j / rd (qA a) k k k):=by show(if i=k then _ else _)=_;rw[ah hi]
   have num:Tz a k k k*Tz a k i j-Tz a k i k*Tz a k k j=fm a k*z:=by apply cast_inj;rw[fc,cR,cR,cR,h1,h1,h1,h1,h2,<-hz,hr,ds];grind
   have fz:fm a k≠0:=λ q=>by rw[q]at h2;exact h3 h2.symm
   rw[num,Int.mul_ediv_cancel_left _ fz,hz]
theorem Je {n:Nat}(p:∀ k,k<n->rd (qA a) k k k≠0){i:Nat}(hi:i<n):sm n (λ j=>(a i j:Rat)*rd (qA a) n j n)=(a i n:Rat):=by
 have e:=eli p n (ak _);have dn:=(Ae p n (ak _)).2.2;have spS:∀ m,m<=n->Sp (qA a) n (λ c=>sm m (λ j=>qA a i j*rd (qA a) n j c)):=λ m=>by
  induction m with
  | zero=>intro _;exact⟨λ _=>0,λ c=>by
    show(0:Rat)=sm n (λ r=>0*qA a r c);have:sm n (λ r=>0*qA a r c)=sm n (λ _=>0):=j8 λ r _=>by grind
    rw[this,rH]⟩
  | succ m ih =>intro hm;exact(Sp.lin 1 (qA a i m) (ih (by lia)) (e.t m (by lia))).EA λ c=>by show sm m _+qA a i m*rd (qA a) n m c=_;grind
 have spA:Sp (qA a) n (qA a i):=by
  have:∀ m,i<m->Sp (qA a) m (qA a i):=λ m=>by
   induction m with
   | zero=>intro h;lia
   | succ m ih =>
    intro h;by_cases q:i=m
    ·subst q;exact Sp.self i
    ·exact(ih (by lia)).up
  exact this n hi
 have sp:=Sp.lin 1 (-1) spA (spS n (ak _));have zero:∀ c∈Ck n,(λ c=>1*qA a i c+-1*sm n (λ j=>qA a i j*rd (qA a) n j c)) c=0:=λ c hc=>by
  have hc:=xG hc;have:sm n (λ j=>qA a i j*rd (qA a) n j c)=qA a i c*rd (qA a) n c c:=qu (i:=c) hc λ r hr ne=>by rw[e.o r c hr hc,ah ne];grind
  show 1*qA a i c+-1*sm n (λ j=>qA a i j*rd (qA a) n j c)=0;rw[this,e.o c c hc hc,af rfl];grind
 have d:=sp.dt (n::Ck n);rw[u_ zero]at d;have d:(1*qA a i n+-1*sm n (λ j=>qA a i j*rd (qA a) n j n))*Dk (qA a) n=0:=d;have:1*qA a i n+-1*sm n (λ j=>qA a i j*rd (qA a) n j n)=0:=by
  rcases gw.mp d with h | h
  ·exact h
  ·exact absurd h dn
 show sm n (λ j=>qA a i j*rd (qA a) n j n)=qA a i n;grind
theorem only {n:Nat}(p:∀ k,k<n->rd (qA a) k k k≠0){y:Nat->Rat}(hy:∀ i,i<n->sm n (λ j=>(a i j:Rat)*y j)=(a i n:Rat)){i:Nat}(hi:i<n):y i=rd (qA a) n i n:=by
 have e:=eli p n (ak _);obtain⟨c,hc⟩:=e.t i hi;have h1:sm n (λ j=>rd (qA a) n i j*y j)=y i:=by
  have:=qu (f:=λ j=>rd (qA a) n i j*y j) hi λ r hr ne=>by rw[e.o i r hi hr,ah (aX ne)];grind
  rw[this,e.o i i hi hi,af rfl];grind
 have h2:sm n (λ j=>rd (qA a) n i j*y j)=sm n (λ r=>c r*(a r n:Rat)):=by
  have:sm n (λ j=>rd (qA a) n i j*y j)=sm n (λ j=>sm n (λ r=>c r*qA a r j*y j)):=j8 λ j _=>by
   have e2:(λ r=>c r*qA a r j*y j)=λ r=>y j*(c r*qA a r j):=by funext r;grind
   rw[hc,e2,I_];grind
  rw[this,F7];exact j8 λ r hr=>by
   have e2:(λ i=>c r*qA a r i*y i)=λ i=>c r*((a r i:Rat)*y i):=by funext i;show _=c r*(qA a r i*y i);grind
   rw[e2,I_,hy r hr]
 rw[<-h1,h2,hc];rfl
end
end Dt0
namespace Dt0
def sT (n:Nat)(S:Nat->Bool)(f:Nat->Rat):Rat:=sm n (λ j=>if S j=true then f j else 0)
theorem O9 (n:Nat)(S:Nat->Bool)(a b:Rat)(f g:Nat->Rat):sT n S (λ j=>a*f j+b*g j)=a*sT n S f+b*sT n S g:=by unfold sT;rw[<-qt];exact j8 λ j _=>by split<;>grind
theorem EB {n k:Nat}{S:Nat->Bool}(hk:k<n)(hS:S k=false)(f:Nat->Rat):sT n (λ j=>S j || j==k) f=sT n S f+f k:=by
 unfold sT;have h:=qt 1 1 (λ j=>if S j=true then f j else 0) (λ j=>if j=k then f j else 0) n;have e1:sm n (λ j=>if j=k then f j else 0)=f k:=by have:=qu (f:=λ j=>if j=k then f j else 0) hk λ r _ ne=>ah ne;rw[this,af rfl]
 rw[e1]at h;have e2:sm n (λ j=>if (S j || j==k)=true then f j else 0)=sm n (λ j=>1*(if S j=true then f j else 0)+1*(if j=k then f j else 0)):=j8 λ j _=>by
  by_cases c:j=k
  ·subst c;simp[hS];grind
  ·have:(j==k)=false:=by simpa using c
   rw[this,Bool.or_false,ah c];grind
 rw[e2,h];grind
theorem Ma {n k:Nat}(hk:k<n)(f:Nat->Rat):sT n (λ j=>j==k) f=f k:=by
 unfold sT;have:=qu (f:=λ j=>if (j==k)=true then f j else 0) hk λ r _ ne=>by rw[ah (by simpa using ne)]
 rw[this];simp
structure MM (A:Nat->Nat->Rat)(n k:Nat):Prop where
 off:∀ i j,k<=i->i<n->k<=j->j<n->i≠j->rd A k i j<=0
 sub:∀ (S:Nat->Bool) i,(∀ j,S j=true->k<=j/\j<n)->S i=true->0<=sT n S (rd A k i)
 con:∀ (S:Nat->Bool),(∀ j,S j=true->k<=j/\j<n)->(∃ i,S i=true)->∃ i,S i=true/\0<sT n S (rd A k i)
section
variable {A:Nat->Nat->Rat}{n k:Nat}
theorem MM.piv (m:MM A n k)(hk:k<n):0<rd A k k k:=by
 obtain⟨i,hi,h⟩:=m.con (λ j=>j==k) (λ j hj=>by have e:j=k:=(by simpa using hj);lia) ⟨k,by simp⟩;have:i=k:=by simpa using hi
 subst this;rw[Ma hk]at h;exact h
theorem nS {a b:Rat}(ha:0<=a)(hb:0<=b):0<=a*b:=hW ha hb
theorem Uy {s t q p w:Rat}(hpw:p*w=1)(h:0<=-t*((q+p)*w)):s+t<=s-t*(q*w):=by
 have e:-t*((q+p)*w)=-(t*(q*w))-t:=by grind
 rw[e]at h;generalize t*(q*w)=x at *;grind
theorem Uz {s t q p w:Rat}(hpw:p*w=1)(h:0 < -t*((q+p)*w))(h3:0<=s+t):0<s-t*(q*w):=by
 have e:-t*((q+p)*w)=-(t*(q*w))-t:=by grind
 rw[e]at h;generalize t*(q*w)=x at *;grind
theorem UA {r t q w:Rat}(h1:r<=0)(h:0<=-t*(-q*w)):r-t*(q*w)<=0:=by
 have e:-t*(-q*w)=t*(q*w):=by grind
 rw[e]at h;generalize t*(q*w)=x at *;grind
theorem MM.step (m:MM A n k)(hk:k<n):MM A n (k+1):=by
 have pp:=m.piv hk;have hw:0<(rd A k k k)⁻¹:=hX.mpr pp;have hpw:rd A k k k*(rd A k k k)⁻¹=1:=bZ _ (by grind);have other:∀ i j,i≠k->rd A (k+1) i j=rd A k i j-rd A k i k*(rd A k k j*(rd A k k k)⁻¹):=λ i j h=>by show(if i=k then _ else _)=_;rw[ah h,gf]
 have key:∀ (S:Nat->Bool) i,(∀ j,S j=true->k+1<=j/\j<n)->S i=true ->
   sT n S (rd A (k+1) i)=sT n S (rd A k i)-rd A k i k*(sT n S (rd A k k)*(rd A k k k)⁻¹)/\rd A k i k<=0/\0<=sT n S (rd A k i)+rd A k i k/\0<=sT n S (rd A k k)+rd A k k k:=λ S i hS hi=>by
  have ik:=hS i hi;have nk:S k=false:=by
   cases q:S k with
   | false=>rfl
   | true=>have:=hS k q;lia
  have hS':∀ j,(S j || j==k)=true->k<=j/\j<n:=λ j hj=>by
   rcases gE.mp hj with z | z
   ·have:=hS j z;lia
   ·have:j=k:=by simpa using z
    lia
  refine⟨?_,m.off i k (by lia) ik.2 (ak _) hk (by lia),?_,?_⟩
  ·have h:=O9 n S 1 (-(rd A k i k*(rd A k k k)⁻¹)) (rd A k i) (rd A k k)
   have e:rd A (k+1) i=λ j=>1*rd A k i j+-(rd A k i k*(rd A k k k)⁻¹)*rd A k k j:=by funext j;rw[other i j (by lia)];grind
   rw[e,h];grind
  ·have h:=m.sub (λ j=>S j || j==k) i hS' (by rw[hi];rfl);rw[EB hk nk]at h;exact h
  ·have h:=m.sub (λ j=>S j || j==k) k hS' (by simp);rw[EB hk nk]at h;exact h
 have low:∀ (S:Nat->Bool) i,(∀ j,S j=true->k+1<=j/\j<n)->S i=true->sT n S (rd A k i)+rd A k i k<=sT n S (rd A (k+1) i):=λ S i hS hi=>by obtain⟨h1,h2,h3,h4⟩:=key S i hS hi;rw[h1];exact Uy hpw (nS (a:=-(rd A k i k)) (b:=(sT n S (rd A k k)+rd A k k k)*(rd A k k k)⁻¹) (by grind) (nS h4 (by grind)))
 refine⟨λ i j hi hin hj hjn ne=>?_,λ S i hS hi=>?_,λ S hS hne=>?_⟩
 ·rw[other i j (by lia)];have h1:=m.off i j (by lia) hin (by lia) hjn ne;have h2:=m.off i k (by lia) hin (ak _) hk (by lia);have h3:=m.off k j (ak _) hk (by lia) hjn (by lia);exact UA h1 (nS (a:=-(rd A k i k)) (b:=-(rd A k k j)*(rd A k k k)⁻¹) (by grind) (nS (by grind) (by grind)))
 ·obtain⟨h1,h2,h3,h4⟩:=key S i hS hi;have:=low S i hS hi;grind
 ·obtain⟨i0,hi0⟩:=hne
  have nk:S k=false:=by
   cases q:S k with
   | false=>rfl
   | true=>have:=hS k q;lia
  have hS':∀ j,(S j || j==k)=true->k<=j/\j<n:=λ j hj=>by
   rcases gE.mp hj with z | z
   ·have:=hS j z;lia
   ·have:j=k:=by simpa using z
    lia
  obtain⟨i,hi,pos⟩:=m.con (λ j=>S j || j==k) hS' ⟨k,by simp⟩;rw[EB hk nk]at pos;rcases gE.mp hi with z | z
  ·exact⟨i,z,by have:=low S i hS z;grind⟩
  ·have:i=k:=by simpa using z
   subst this;by_cases ex:∃ i',S i'=true/\rd A i i' i<0
   ·obtain⟨i',hi',neg⟩:=ex;obtain⟨h1,h2,h3,h4⟩:=key S i' hS hi';refine⟨i',hi',?_⟩;rw[h1];exact Uz hpw (Rat.mul_pos (a:=-(rd A i i' i)) (b:=(sT n S (rd A i i)+rd A i i i)*(rd A i i i)⁻¹) (by grind) (Rat.mul_pos pos hw)) h3
   ·obtain⟨i',hi',pos'⟩:=m.con S (λ j hj=>by have:=hS j hj;lia) ⟨i0,hi0⟩
    obtain⟨h1,h2,h3,h4⟩:=key S i' hS hi';refine⟨i',hi',?_⟩;have:rd A i i' i=0:=by have:¬ rd A i i' i<0:=λ z=>ex ⟨i',hi',z⟩;grind
    rw[h1,this];grind
theorem MM.all (m:MM A n 0):∀ k,k<=n->MM A n k
 | 0,_=>m
 | k+1,h=>(MM.all m k (by lia)).step (by lia)
theorem MM.RF (m:MM A n 0):∀ k,k<n->0<rd A k k k:=λ k hk=>(m.all k (by lia)).piv hk
theorem MM.ne (m:MM A n 0):∀ k,k<n->rd A k k k≠0:=λ k hk=>by have:=m.RF k hk;grind
theorem MM.EC (m:MM A n 0):∀ k,k<=n->0<Dk A k
 | 0,_=>by show(0:Rat)<1;decide
 | k+1,h=>by rw[F8 (eli m.ne k (by lia))];exact Rat.mul_pos (m.RF k (by lia)) (MM.EC m k (by lia))
end
end Dt0
namespace Dt0
def ab (x C:Rat):Prop:=-C<=x/\x<=C
theorem O_ {x y M C:Rat}(h:ab x M)(h':ab y C):ab (x*y) (M*C):=by
 obtain⟨h1,h2⟩:=h;obtain⟨h3,h4⟩:=h';have p1:=nS (a:=M-x) (b:=C+y) (by grind) (by grind);have p2:=nS (a:=M+x) (b:=C-y) (by grind) (by grind);have p3:=nS (a:=M-x) (b:=C-y) (by grind) (by grind);have p4:=nS (a:=M+x) (b:=C+y) (by grind) (by grind);have e1:(M-x)*(C+y)+(M+x)*(C-y)=2*(M*C)-2*(x*y):=by grind
 have e2:(M-x)*(C-y)+(M+x)*(C+y)=2*(M*C)+2*(x*y):=by grind
 generalize (M-x)*(C+y)=a1 at *;generalize (M+x)*(C-y)=a2 at *;generalize (M-x)*(C-y)=a3 at *;generalize (M+x)*(C+y)=a4 at *;generalize x*y=xy at *;generalize M*C=mc at *;exact⟨by grind,by grind⟩
theorem Jf {x y M C:Rat}(h:ab x M)(h':ab y C):ab (x-y) (M+C):=⟨by have:=h.1;have:=h'.2;grind,by have:=h.2;have:=h'.1;grind⟩
theorem Jg {v:Nat->Rat}{D:List Nat->Rat}{M C:Rat}{s:List Nat}(hv:∀ j,ab (v j) M)(N:Nat)(hD:∀ ds,ds.length<=N->ab (D ds) C):∀ (l q:List Nat),q.length+l.length+s.length<=N->ab (exs v D q l s) ((l.length:Rat)*(M*C))
 | [],q,_=>by
  show ab 0 (((0:Nat):Rat)*(M*C));have:((0:Nat):Rat)*(M*C)=0:=by grind
  rw[this];exact⟨by grind,by grind⟩
 | c::l,q,h=>by
  simp only[aQ]at h;have h1:=O_ (hv c) (hD (q++l++s) (by rw[aT,aT];lia));have h2:=Jg (s:=s) hv N hD l (q++[c]) (by rw[aT];simp only[aQ,cn];lia);have h3:=Jf h1 h2;have e:((c::l).length:Rat)*(M*C)=M*C+(l.length:Rat)*(M*C):=by
   have:(((c::l).length:Nat):Rat)=(l.length:Rat)+1:=by rw[aQ];exact di _ 1
   rw[this];grind
  rw[e];exact h3
theorem tJ {x M C:Rat}(h:ab x M)(l:M<=C):ab x C:=⟨by have:=h.1;grind,by have:=h.2;grind⟩
theorem Jh {M:Rat}(hM:0<=M):∀ (R:List (Nat->Rat)) (cs:List Nat),(∀ v∈R,∀ j,ab (v j) M)->cs.length<=9->ab (dt R cs) ((9*M) ^ R.length)
 | [],cs,_,_=>by show ab 1 ((9*M) ^ 0);rw[Rat.pow_zero];exact⟨by decide,by decide⟩
 | v::R,cs,h,hl=>by
  have h1:=Jg (s:=[]) (h v ar) 9 (λ ds hd=>Jh hM R ds (λ u hu=>h u (av _ hu)) hd) cs [] (by simpa using hl);refine tJ h1 ?_;have hp:0<=(9*M) ^ R.length:=hZ (by grind);have hc:(cs.length:Rat)<=9:=by have:((cs.length:Nat):Rat)<=((9:Nat):Rat):=Rat.natCast_le_natCast.mpr hl;exact this
  have:=nS (a:=9-(cs.length:Rat)) (b:=M*(9*M) ^ R.length) (by grind) (nS hM hp);show(cs.length:Rat)*(M*(9*M) ^ R.length)<=(9*M) ^ (R.length+1);rw[Rat.pow_succ];generalize (9*M) ^ R.length=P at *;have e:(9-(cs.length:Rat))*(M*P)=P*(9*M)-(cs.length:Rat)*(M*P):=by grind
  rw[e]at this;generalize (cs.length:Rat)*(M*P)=z at *;grind
theorem ED (A:Nat->Nat->Rat):∀ k,(Rw A k).length=k
 | 0=>rfl
 | k+1=>by show(Rw A k).length+1=_;rw[ED A k]
theorem EE:∀ k,(Ck k).length=k
 | 0=>rfl
 | k+1=>by show(Ck k).length+1=_;rw[EE k]
theorem Ji {A:Nat->Nat->Rat}{u:Nat->Rat}:∀ {k:Nat},u∈Rw A k->∃ r,u=A r
 | 0,h=>by cases h
 | k+1,h=>(aN.mp h).elim (λ e=>⟨k,e⟩) Ji
theorem Cw {x : Rat}(h : 1 <= x) : ∀ {m n : Nat}, m <= n -> x ^ m <= x ^ n := by
  intro m n hmn;induction n with
  | zero => have : m = 0 := by lia
            subst this; grind
  | succ n ih =>
    by_cases e : m = n + 1
    · subst e; grind
    · have h1 := ih (by lia)
      have h0 : 0 <= x ^ n := hZ (by grind);have := nS (a := x ^ n) (b := x - 1) h0 (by grind);rw[Rat.pow_succ];have e2 : x ^ n * (x - 1) = x ^ n * x - x ^ n := by grind
      rw[e2]at this;generalize x ^ n * x = z at *;grind
theorem Pa {A:Nat->Nat->Rat}{M:Rat}(hM:1<=M)(hz:∀ i j,ab (A i j) M){k:Nat}(hk:k<=8)(e:Eli A k)(i j:Nat):ab (rd A k i j*Dk A k) (2*(9*M) ^ 9)/\ab (Dk A k) ((9*M) ^ 9):=by
 have h9:(1:Rat)<=9*M:=by grind
 have hR:∀ {v:Nat->Rat},(∀ j,ab (v j) M)->∀ u∈v::Rw A k,∀ j,ab (u j) M:=λ hv u hu=>by
  rcases aN.mp hu with rfl | hu
  ·exact hv
  ·obtain⟨r,rfl⟩:=Ji hu;exact hz r
 have hb:∀ {v:Nat->Rat},(∀ j,ab (v j) M)->ab (dt (v::Rw A k) (j::Ck k)) ((9*M) ^ 9):=λ hv=>by have:=Jh (by grind) _ (j::Ck k) (hR hv) (by rw[aQ,EE];lia);exact tJ this (Cw h9 (by rw[aQ,ED];lia))
 have hD:ab (Dk A k) ((9*M) ^ 9):=by have:=Jh (M:=M) (by grind) (Rw A k) (Ck k) (λ u hu=>by obtain⟨r,rfl⟩:=Ji hu;exact hz r) (by rw[EE];lia);exact tJ this (Cw h9 (by rw[ED];lia))
 refine⟨?_,hD⟩;have hP:0<=(9*M) ^ 9:=hZ (by grind);by_cases hi:k<=i
 ·have h:=hb (hz i);rw[xH (e.s i hi),u_ λ c hc=>e.z i c hi (xG hc)]at h;exact tJ h (by grind)
 ·have hi:i<k:=by lia
  have hv:∀ j:Nat,ab ((λ j=>if j=i then (1:Rat) else 0) j) M:=λ j=>by
   show ab (if j=i then 1 else 0) M;split
   ·exact⟨by grind,by grind⟩
   ·exact⟨by grind,by grind⟩
  have h:=hb hv;have sp:Sp A k (λ j=>(λ j=>if j=i then (1:Rat) else 0) j-((λ j=>if j=i then (1:Rat) else 0) j-rd A k i j)):=(e.t i hi).EA λ j=>by grind
  rw[xH (w:=λ j=>(if j=i then (1:Rat) else 0)-rd A k i j) sp,u_ λ c hc=>by
   rw[e.o i c hi (xG hc)];by_cases q:c=i
   ·rw[af q,af q.symm];grind
   ·rw[ah q,ah (aX q)];grind]at h
  have h1:ab ((if j=i then (1:Rat) else 0)*Dk A k) ((9*M) ^ 9):=by
   split
   ·have:(1:Rat)*Dk A k=Dk A k:=by grind
    rw[this];exact hD
   ·have:(0:Rat)*Dk A k=0:=by grind
    rw[this];exact⟨by grind,by grind⟩
  have h2:=Jf h1 h;have e3:(if j=i then (1:Rat) else 0)*Dk A k-((if j=i then 1 else 0)-rd A k i j)*Dt0.dt (Rw A k) (Ck k)=rd A k i j*Dk A k:=by show _-((if j=i then 1 else 0)-rd A k i j)*Dk A k=_;grind
  rw[e3]at h2;exact tJ h2 (by grind)
theorem Af {z:Int}{N:Nat}(h:ab (z:Rat) (N:Rat)):z.natAbs<=N:=by
 have h1:(z:Rat)<=((N:Int):Rat):=h.2;have h2:((-(N:Int):Int):Rat)<=(z:Rat):=by rw[Rat.intCast_neg];exact h.1
 have h1:=dY.mp h1;have h2:=dY.mp h2;lia
theorem Oa {a:Nat->Nat->Int}{n:Nat}(hn:n<=8)(p:∀ k,k<n->rd (qA a) k k k≠0)(hz:∀ i j,(a i j).natAbs<=1000){k:Nat}(hk:k<=n)(i j:Nat):(Tz a k i j).natAbs<2 ^ 200/\(fm a k).natAbs<2 ^ 200:=by
 obtain⟨h1,h2,_⟩:=Ae p k hk;have hA:∀ i j,ab (qA a i j) 1000:=λ i j=>by
  have:=hz i j;have l1:(a i j:Int)<=1000:=by lia
  have l2:(-1000:Int)<=a i j:=by lia
  have l1:=dY.mpr l1;have l2:=dY.mpr l2;exact⟨l2,l1⟩
 obtain⟨b1,b2⟩:=Pa (M:=1000) (by decide) hA (bf hk hn) (eli p k hk) i j;rw[<-h1]at b1;rw[<-h2]at b2;have e:(2:Rat)*(9*1000) ^ 9=((2*9000 ^ 9:Nat):Rat):=by decide +kernel
 have e':((9:Rat)*1000) ^ 9=((9000 ^ 9:Nat):Rat):=by decide +kernel
 rw[e]at b1;rw[e']at b2;exact⟨bR (Af b1) (by decide +kernel),bR (Af b2) (by decide +kernel)⟩
end Dt0
namespace L2
open PySem PySem.Spec PyProof.Rows
abbrev Key:=Sum Int Str
def Ag:Key->iG->Bool
 | .inl k,v=>Value.isInt k v
 | .inr x,v=>Value.isStrOf x v
def UB (w:World):Key->Int
 | .inl k=>hashInt k
 | .inr x=>hashStr w x
theorem kg:∀ {k:Key} {v:iG},Ag k v=true->(∃ i t,k=Sum.inl i/\v=Value.int i t)\/(∃ x t,k=Sum.inr x/\v=Value.str x t)
 | .inl i,v,h=>by obtain⟨t,e⟩:=fH (k:=i) (v:=v) h;exact .inl ⟨i,t,rfl,e⟩
 | .inr x,v,h=>by obtain⟨t,e⟩:=Value.isStrOf_shape (x:=x) (v:=v) h;exact .inr ⟨x,t,rfl,e⟩
theorem HM (i:Int)(t:Tok):Ag (.inl i) (.int i t)=true:=by simp[Ag,Value.isInt]
theorem HN (x:Str)(t:Tok):Ag (.inr x) (.str x t)=true:=by simp[Ag,Value.isStrOf]
theorem Pb (a b:Int):decide ((Sum.inl a:Key)=Sum.inl b)=(a==b):=by
 by_cases e:a=b
 ·subst e;simp
 ·have h:¬ (Sum.inl a:Key)=Sum.inl b:=λ q=>e (Sum.inl.inj q);rw[decide_eq_false h];exact(beq_eq_false_iff_ne.mpr e).symm
theorem Pc (a b:Str):decide ((Sum.inr a:Key)=Sum.inr b)=decide (a=b):=by
 by_cases e:a=b
 ·subst e;simp
 ·have h:¬ (Sum.inr a:Key)=Sum.inr b:=λ q=>e (Sum.inr.inj q);rw[decide_eq_false h,decide_eq_false e]
theorem Pd (a:Int)(b:Str):decide ((Sum.inl a:Key)=Sum.inr b)=false:=decide_eq_false (λ q=>nomatch q)
theorem Pe (a:Str)(b:Int):decide ((Sum.inr a:Key)=Sum.inl b)=false:=decide_eq_false (λ q=>nomatch q)
def ky (prog:Program)(w:World):PySem.KeyKind prog w Key where
 is:=Ag
 hash:=UB w
 inj:=λ v a b ha hb=>by
  rcases kg ha with⟨i,t,rfl,rfl⟩ | ⟨x,t,rfl,rfl⟩
  ·rcases kg hb with⟨j,u,rfl,e⟩ | ⟨y,u,rfl,e⟩
   ·injection e with e1 _;rw[e1]
   ·exact nomatch e
  ·rcases kg hb with⟨j,u,rfl,e⟩ | ⟨y,u,rfl,e⟩
   ·exact nomatch e
   ·injection e with e1 _;rw[e1]
 byValue:=λ k v h=>by
  rcases kg h with⟨i,t,rfl,rfl⟩ | ⟨x,t,rfl,rfl⟩<;>rfl
 pyHash:=λ hv h=>by
  rcases kg hv with⟨i,t,rfl,rfl⟩ | ⟨x,t,rfl,rfl⟩
  ·exact wpAny_pyHash_int h
  ·exact wpAny_pyHash_str h
 eqBool:=λ hu hv h=>by
  rcases kg hu with⟨i,t,rfl,rfl⟩ | ⟨x,t,rfl,rfl⟩
  ·rcases kg hv with⟨j,u,rfl,rfl⟩ | ⟨y,u,rfl,rfl⟩
   ·rw[Pb]at h;exact wpAny_eqBool_int h
   ·rw[Pd]at h;exact SeqAt.EqAt.int_str i t y u _ _ _ _ h
  ·rcases kg hv with⟨j,u,rfl,rfl⟩ | ⟨y,u,rfl,rfl⟩
   ·rw[Pe]at h;exact SeqAt.EqAt.str_int x t j u _ _ _ _ h
   ·rw[Pc]at h;exact wpAny_eqBool_str h
 «strs»:=λ k x t v h=>by
  rcases kg h with⟨i,u,rfl,e⟩ | ⟨y,u,rfl,e⟩
  ·exact nomatch e
  ·injection e with e1 _
   subst e1
   cases v<;>rfl
theorem Cy (prog:Program)(w:World)(i:Int)(t:Tok):(ky prog w).is (.inl i) (.int i t)=true:=HM i t
theorem Cz (prog:Program)(w:World)(x:Str)(t:Tok):(ky prog w).is (.inr x) (.str x t)=true:=HN x t
inductive V where
 | non | bl (b:Bool) | int (i:Int) | str (x:Str) | byt (b:Array UInt8) | flt (b:UInt64) | ref (a:Addr) | ty (n:String)
 deriving DecidableEq
def RelV:V->iG->Prop
 | .non,u=>u=Value.none
 | .bl b,u=>u=Value.bool b
 | .int i,u=>∃ t,u=Value.int i t
 | .str x,u=>∃ t,u=Value.str x t
 | .byt b,u=>∃ t,u=Value.bytes b t
 | .flt b,u=>∃ t,u=Value.float b t
 | .ref a,u=>u=Value.ref a
 | .ty n,u=>u=Value.type n
abbrev Vals:List V->List iG->Prop:=Paired RelV
theorem Vals.length {xs:List V}{us:List iG}(r:Vals xs us):xs.length=us.length:=f_ r
theorem Vals.get:∀ {xs:List V} {us:List iG} {i:Nat} {x:V},Vals xs us->xs[i]?=some x->∃ u,us[i]?=some u/\RelV x u
 | _,_,_,_,.nil,e=>by simp at e
 | _,_,0,_,.cons r _,e=>by simp at e;subst e;exact⟨_,rfl,r⟩
 | _,_,i+1,x,.cons _ t,e=>by obtain⟨u,h1,h2⟩:=Vals.get (i:=i) (x:=x) t (by simpa using e);exact⟨u,by simpa using h1,h2⟩
theorem Vals.set {x:V}{u:iG}(r:RelV x u):∀ {xs:List V} {us:List iG} (i:Nat),Vals xs us->Vals (xs.set i x) (us.set i u)
 | _,_,_,.nil=>.nil
 | _,_,0,.cons _ t=>.cons r t
 | _,_,i+1,.cons q t=>.cons q (Vals.set r i t)
theorem Vals.append:∀ {xs ys:List V} {us ws:List iG},Vals xs us->Vals ys ws->Vals (xs++ys) (us++ws)
 | _,_,_,_,.nil,s=>s
 | _,_,_,_,.cons r t,s=>.cons r (Vals.append t s)
theorem Vals.take:∀ {xs:List V} {us:List iG} (n:Nat),Vals xs us->Vals (xs.take n) (us.take n)
 | _,_,0,_=>.nil
 | _,_,_+1,.nil=>.nil
 | _,_,n+1,.cons r t=>.cons r (Vals.take n t)
theorem Vals.drop:∀ {xs:List V} {us:List iG} (n:Nat),Vals xs us->Vals (xs.drop n) (us.drop n)
 | _,_,0,r=>r
 | _,_,_+1,.nil=>.nil
 | _,_,n+1,.cons _ t=>Vals.drop n t
def zN:iA V->iA iG->Prop
 | some v,some u=>RelV v u
 | none,none=>True
 | _,_=>False
def KV {κ:Type}:List (κ×V)->List (κ×iG)->Prop:=Paired λ(p:κ×V) (q:κ×iG)=>p.1=q.1/\RelV p.2 q.2
def kV:Key->V
 | .inl i=>.int i
 | .inr x=>.str x
inductive HO where
 | lst (xs:List V)
 | tup (xs:List V)
 | dK (kvs:List (Key×V)) | dT (kvs:List (List Key×V))
 | set (S:Int->Bool) (n:Nat)
 | ins (C dx:Addr) (fs:List (Str×V))
 | own (x:Addr)
 | xd (fs:List (Str×V))
 | met (f x:Addr)
 | rng (lo hi:Int)
 | frz (o:Obj) (u:HO)
 | tbl (ps:Array iG)
 | ext (φ:Heap->Prop)
abbrev Hp:=Addr->iA HO
def upd (H:Hp)(a:Addr)(o:HO):Hp:=λ b=>if b=a then some o else H b
theorem iU {H:Hp}{a:Addr}{o:HO}:upd H a o a=some o:=by unfold upd;rw[af rfl]
theorem ja {H:Hp}{a b:Addr}{o:HO}(h:b≠a):upd H a o b=H b:=by unfold upd;rw[ah h]
theorem Mb {H:Hp}{a:Addr}{o u:HO}:upd (upd H a o) a u=upd H a u:=by funext b;unfold upd;split<;>rfl
theorem RG {H:Hp}{a b:Addr}{o u:HO}(h:H a=some o)(h':H b=some u)(d:o≠u):a≠b:=by intro e;subst e;rw[h]at h';exact d (aF h')
theorem jn {H:Hp}{a b:Addr}{o:HO}(h:H a=some o)(h':H b=none):a≠b:=by intro e;subst e;rw[h]at h';cases h'
section
variable (P:Program)(w:World)
def kR (H:Hp)(h:Heap)(a:Addr):HO->Prop
 | .lst xs=>xs.length<=sizeLine/\∃ (its:List iG) (n:Nat),Vals xs its/\h.get? a=some {cls:=.type "list",data:=.seq its.toArray n}
 | .tup xs=>(xs.length<=sizeLine/\∃ o,h.get? a=some o/\o.dict=none)/\∃ its:List iG,Vals xs its/\IsTup h a its.toArray
 | .dK kvs=>kvs.length<=sizeLine/\(a==sysModules)=false/\∃ vs,KV kvs vs/\h.DictOf (ky P w) a vs
 | .dT kvs=>kvs.length<=sizeLine/\(a==sysModules)=false/\∃ xs:List (List Key×Addr×iG),
   Paired (λ(p:List Key×V) (q:List Key×Addr×iG)=>p.1=q.1/\H q.2.1=some (.tup (p.1.map kV))/\RelV p.2 q.2.2) kvs xs /\
   ∃ o es ep,h.get? a=some o/\o.ExactDict/\o.data=.dict es ep/\es.toList=xs.map (entryOfKey (tupleKind (ky P w)))/\(xs.map (·.1)).Nodup
 | .set S n=>h.SetOf (intKind P w) a S n
 | .ins C dx fs=>H dx=some (.own a)/\fs.length<=1000/\dx≠a/\h.get? a=some (PySem.W.instObj C dx) /\
   ∃ mA,h.Ns1 dx mA/\(∀ f,zN (fs.lookup f) (mA f))/\PySem.Within mA (fs.map (·.1))
 | .own _=>∃ o,h.get? a=some o
 | .xd fs=>∃ mA,h.Ns1 a mA/\∀ f,zN (fs.lookup f) (mA f)
 | .rng lo hi=>∃ t u v,h.get? a=some {cls:=.type "range",data:=.fields #[.int lo t,.int hi u,.int 1 v]}
 | .frz o u=>h.get? a=some o/\kR H h a u
 | .tbl ps=>h.get? a=some {cls:=.none,data:=.fields ps}
 | .met f x=>h.get? a=some (PySem.W.methodObj (.ref f) (.ref x))
 | .ext φ=>φ h/\(∃ o,h.get? a=some o)/\∀ h1 h2:Heap,φ h1->(∀ o,h1.get? a=some o->h2.get? a=some o)->φ h2
def HOk (H:Hp)(h:Heap):Prop:=∀ a o,H a=some o->kR P w H h a o
end
section
variable {P:Program}{w:World}{H H':Hp}{h h':Heap}{a:Addr}{o:HO}
theorem kR.lt (x:kR P w H h a o):a<h.objs.size:=by
 cases o with
 | lst xs=>obtain⟨_,_,_,_,e⟩:=x;exact aE e
 | tup xs=>obtain⟨_,_,_,p⟩:=x;exact p.lt
 | dK kvs=>obtain⟨_,_,_,_,o,_,_,e,_⟩:=x;exact aE e
 | dT kvs=>obtain⟨_,_,_,_,o,_,_,e,_⟩:=x;exact aE e
 | set S n=>obtain⟨o,_,_,_,e,_⟩:=x;exact aE e
 | ins C dx fs=>obtain⟨_,_,_,e,_⟩:=x;exact aE e
 | own y=>obtain⟨_,e⟩:=x;exact aE e
 | xd fs=>obtain⟨_,⟨_,_,_,e,_⟩,_⟩:=x;exact aE e
 | rng lo hi=>obtain⟨_,_,_,e⟩:=x;exact aE e
 | frz ob u=>obtain⟨e,_⟩:=x;exact aE e
 | tbl ps=>exact aE (show h.get? a=some _ from x)
 | met f y=>exact aE (show h.get? a=some _ from x)
 | ext φ=>obtain⟨_,⟨_,e⟩,_⟩:=x;exact aE e
theorem Paired.Mc {α β:Type}{F G:α->β->Prop}:∀ {l₁:List α} {l₂:List β},Paired F l₁ l₂->(∀ a b,F a b->G a b)->Paired G l₁ l₂
 | _,_,.nil,_=>.nil
 | _,_,.cons r t,f=>.cons (f _ _ r) (Paired.Mc t f)
theorem Paired.imp' {α β:Type}{F G:α->β->Prop}(f:∀ a b,F a b->G a b){l₁:List α}{l₂:List β}(r:Paired F l₁ l₂):Paired G l₁ l₂:=Paired.Mc r f
theorem kR.CA (x:kR P w H h a o)(k:∀ b u,(b=a\/H b=some (.own a))->h.get? b=some u->h'.get? b=some u)
  (ho:∀ b,H b=some (.own a)->H' b=some (.own a)) (ht:∀ b xs,H b=some (.tup xs)->H' b=some (.tup xs)):kR P w H' h' a o:=by
 induction o with
 | lst xs=>obtain⟨z,its,n,r,e⟩:=x;exact⟨z,its,n,r,k _ _ (.inl rfl) e⟩
 | tup xs=>obtain⟨⟨z,o2,e2,d2⟩,its,r,ob,e,c⟩:=x;exact⟨⟨z,o2,k _ _ (.inl rfl) e2,d2⟩,its,r,ob,k _ _ (.inl rfl) e,c⟩
 | dK kvs=>obtain⟨z,y,vs,r,ob,es,ep,e,c⟩:=x;exact⟨z,y,vs,r,ob,es,ep,k _ _ (.inl rfl) e,c⟩
 | dT kvs =>obtain⟨z,y,xs,r,ob,es,ep,e,c⟩:=x;exact⟨z,y,xs,Paired.Mc r λ p q z=>⟨z.1,ht _ _ z.2.1,z.2.2⟩,ob,es,ep,k _ _ (.inl rfl) e,c⟩
 | set S n=>obtain⟨ob,es,ep,t,e,c⟩:=x;exact⟨ob,es,ep,t,k _ _ (.inl rfl) e,c⟩
 | ins C dx fs =>obtain⟨d,z,ne,e,mA,⟨od,es,ep,e2,c⟩,r⟩:=x;exact⟨ho _ d,z,ne,k _ _ (.inl rfl) e,mA,⟨od,es,ep,k _ _ (.inr d) e2,c⟩,r⟩
 | own y=>obtain⟨ob,e⟩:=x;exact⟨ob,k _ _ (.inl rfl) e⟩
 | xd fs=>obtain⟨mA,⟨od,es,ep,e,c⟩,r⟩:=x;exact⟨mA,⟨od,es,ep,k _ _ (.inl rfl) e,c⟩,r⟩
 | rng lo hi=>obtain⟨t,u,v,e⟩:=x;exact⟨t,u,v,k _ _ (.inl rfl) e⟩
 | frz ob u ih=>obtain⟨e,q⟩:=x;exact⟨k _ _ (.inl rfl) e,ih q⟩
 | tbl ps =>have e:h.get? a=some {cls:=.none,data:=.fields ps}:=x;show h'.get? a=some {cls:=.none,data:=.fields ps};exact k a _ (.inl rfl) e
 | met f y =>have e:h.get? a=some (PySem.W.methodObj (.ref f) (.ref y)):=x;show h'.get? a=some (PySem.W.methodObj (.ref f) (.ref y));exact k a _ (.inl rfl) e
 | ext φ=>obtain⟨p,⟨o,e⟩,st⟩:=x;exact⟨st _ _ p λ o q=>k _ _ (.inl rfl) q,⟨o,k _ _ (.inl rfl) e⟩,st⟩
theorem HOk.lt (x:HOk P w H h)(e:H a=some o):a<h.objs.size:=(x a o e).lt
theorem HOk.fresh (x:HOk P w H h)(e:h.objs.size<=a):H a=none:=by
 cases q:H a with
 | none=>rfl
 | some u=>exact absurd (aJ (x.lt q) e) (bD _)
theorem HOk.kept (x:HOk P w H h)(k:∀ b u,h.get? b=some u->h'.get? b=some u):HOk P w H h':=λ a o e =>(x a o e).CA (λ b u _ q=>k b u q) (λ _ q=>q) λ _ _ q=>q
theorem HOk.laid (x:HOk P w H h)(k:∀ b u,h.get? b=some u->h'.get? b=some u)(hp:h.objs.size<=a)(new:kR P w (upd H a o) h' a o):HOk P w (upd H a o) h':=λ b u e=>by
 have hn:=x.fresh hp;by_cases hb:b=a
 ·subst hb;rw[iU]at e;cases e;exact new
 ·rw[ja hb]at e;exact(x b u e).CA (λ c v _ q=>k c v q) (λ c q=>by rw[ja (jn q hn)];exact q) λ c xs q=>by rw[ja (jn q hn)];exact q
end
def Rd (H:Hp)(a:Addr)(u:HO):Prop:=H a=some u\/∃ o,H a=some (.frz o u)
theorem Rd.ok {P:Program}{w:World}{H:Hp}{h:Heap}{a:Addr}{u:HO}(r:Rd H a u)(x:HOk P w H h):kR P w H h a u:=by
 rcases r with r | ⟨o,r⟩
 ·exact x a u r
 ·obtain⟨_,q⟩:=x a _ r;exact q
def Mut:iA HO->Prop
 | some (.lst _)=>True
 | some (.dK _)=>True
 | some (.dT _)=>True
 | some (.set _ _)=>True
 | some (.ins _ _ _)=>True
 | some (.ext _)=>True
 | _=>False
section
variable {P:Program}{w:World}{H:Hp}{h h':Heap}{x e:Addr}{o':HO}
theorem HOk.write (ok:HOk P w H h)(mu:Mut (H x))(he:e=x\/H e=some (.own x))(k:∀ b u,b≠e->h.get? b=some u->h'.get? b=some u)(heo:∃ u,h'.get? e=some u)
  (new:kR P w (upd H x o') h' x o'):HOk P w (upd H x o') h':=λ b u q=>by
 have nown:∀ c y,H c=some (.own y)->c≠x:=λ c y r z=>by subst z;rw[r]at mu;exact mu
 have ntup:∀ c xs,H c=some (.tup xs)->c≠x:=λ c xs r z=>by subst z;rw[r]at mu;exact mu
 by_cases hb:b=x
 ·subst hb;rw[iU]at q;cases q;exact new
 ·rw[ja hb]at q
  by_cases hbe:b=e
  ·have q':H b=some (.own x):=by
    rcases he with z | z
    ·exact absurd (hbe.trans z) hb
    ·rw[hbe];exact z
   rw[q]at q';cases q';obtain⟨v,hv⟩:=heo;exact⟨v,by rw[hbe];exact hv⟩
  ·refine(ok b u q).CA (λ c v hc r=>k c v ?_ r) (λ c r=>by rw[ja (nown c b r)];exact r) λ c xs r=>by rw[ja (ntup c xs r)];exact r
   rcases hc with rfl | hc
   ·exact hbe
   ·rintro rfl
    rcases he with z | z
    ·exact nown c b hc z
    ·rw[hc]at z;cases z;exact hb rfl
end
structure Un (fs ex:List Addr)(H H':Hp)(h h':Heap):Prop where
 keep:∀ b o,h.get? b=some o->H b=none->b∉fs->b∉ex->h'.get? b=some o
 slot:∀ b o,h.get? b=some o->H b=none->b∈fs->b∉ex->∃ sl,h'.get? b=some {o with slots:=sl}
 free:∀ b o,h.get? b=some o->H b=none->b∉ex->H' b=none
 there:∀ b o,h.get? b=some o->b∉ex->∃ o',h'.get? b=some o'
 tK:∀ b xs,H b=some (.tup xs)->H' b=some (.tup xs)
 tL:∀ b o u,H b=some (.frz o u)->H' b=some (.frz o u)
 A1:∀ b ps,H b=some (.tbl ps)->∃ more,H' b=some (.tbl (ps++more))
section
variable {fs fs' ex ex':List Addr}{H H1 H2:Hp}{h h1 h2 h':Heap}{a x e:Addr}{o:HO}
theorem Un.any (u:Un fs ex H H1 h h1){b:Addr}{ob:Obj}(q:h.get? b=some ob)(n:H b=none)(hx:b∉ex):∃ sl,h1.get? b=some {ob with slots:=sl}:=by
 by_cases hb:b∈fs
 ·exact u.slot b ob q n hb hx
 ·exact⟨ob.slots,u.keep b ob q n hb hx⟩
theorem Un.kept (k:∀ b u,h.get? b=some u->h'.get? b=some u):Un fs ex H H h h' :=
 ⟨λ b ob q _ _ _=>k b ob q,λ b ob q _ _ _=>⟨ob.slots,k b ob q⟩,λ _ _ _ n _=>n,λ b ob q _=>⟨ob,k b ob q⟩,λ _ _ q=>q,λ _ _ _ q=>q,λ _ ps q=>⟨#[],by rw[q];simp⟩⟩
theorem Un.refl:Un fs ex H H h h:=Un.kept λ _ _ q=>q
theorem Un.laid (k:∀ b u,h.get? b=some u->h'.get? b=some u)(hp:h.objs.size<=a)(hn:H a=none):Un fs ex H (upd H a o) h h' where
 keep:=λ b u q _ _ _=>k b u q
 slot:=λ b u q _ _ _=>⟨u.slots,k b u q⟩
 free:=λ b u q n _=>by rw[ja (bw (aJ (aE q) hp))];exact n
 there:=λ b u q _=>⟨u,k b u q⟩
 tK:=λ b xs q=>by rw[ja (jn q hn)];exact q
 tL:=λ b u xs q=>by rw[ja (jn q hn)];exact q
 A1:=λ b ps q=>⟨#[],by rw[ja (jn q hn),q];simp⟩
theorem Un.write (mu:Mut (H x))(he:e=x\/H e=some (.own x))(k:∀ b u,b≠e->h.get? b=some u->h'.get? b=some u)(heo:∃ u,h'.get? e=some u):Un fs ex H (upd H x o) h h':=by
 have hx:∀ b,H b=none->b≠x:=λ b n z=>by subst z;rw[n]at mu;exact mu
 have hb:∀ b,H b=none->b≠e:=λ b n z=>by
  subst z;rcases he with r | r
  ·exact hx b n r
  ·rw[n]at r;cases r
 have hm:∀ b u,H b=some u->¬ Mut (some u)->b≠x:=λ b u q nm z=>by subst z;rw[q]at mu;exact nm mu
 refine⟨λ b u q n _ _=>k b u (hb b n) q,λ b u q n _ _=>⟨u.slots,k b u (hb b n) q⟩,λ b u q n _=>by rw[ja (hx b n)];exact n,λ b u q _=>?_,
  λ b xs q=>by rw[ja (hm b _ q λ z=>z)];exact q,λ b u xs q=>by rw[ja (hm b _ q λ z=>z)];exact q,λ b ps q=>⟨#[],by rw[ja (hm b _ q λ z=>z),q];simp⟩⟩
 by_cases hbe:b=e
 ·subst hbe;exact heo
 ·exact⟨u,k b u hbe q⟩
end
def trk (h:Heap)(H:Hp):List Addr:=(List.range h.objs.size).filter λ a=>(H a).isSome
def A2 (h:Heap)(H:Hp):Heap:=PySem.W.hideAll h (trk h H)
theorem HP (h:Heap)(H:Hp):(A2 h H).objs.size=h.objs.size:=PySem.W.hideAll_size _ _
theorem Jj {h:Heap}{H:Hp}{b:Addr}{o:Obj}(e:h.get? b=some o)(n:H b=none):(A2 h H).get? b=some o :=
 PySem.W.hideAll_get _ e λ hm=>by have q:(H b).isSome=true:=(aY.mp hm).2;rw[n]at q;simp at q
theorem Md {h:Heap}{H:Hp}{b:Addr}{o:Obj}(e:(A2 h H).get? b=some o):h.get? b=some o/\H b=none:=by
 have e':h.get? b=some o:=PySem.W.of_hideAll (trk h H) e;refine⟨e',?_⟩;cases q:H b with
 | none=>rfl
 | some x =>have hm:b∈trk h H:=aY.mpr ⟨aw.mpr (aE e'),by simp[q]⟩;have z:(A2 h H).get? b=none:=PySem.W.hideAll_none (trk h H) hm;rw[z]at e;cases e
def rJ (g h:Heap)(L:Addr):iJ:=(List.range h.objs.size).filterMap λ a=>if a=L\/(g.get? a).isSome=true then none else (h.get? a).map λ o=>(a,o)
theorem CB {g h:Heap}{L a:Addr}{o:Obj}(h1:a≠L)(h2:g.get? a=none)(h3:h.get? a=some o):(a,o)∈rJ g h L :=
 eU.mpr ⟨a,aw.mpr (aE h3),by simp[h1,h2,h3]⟩
set_option tactic.hygienic true in
theorem qv {g h:Heap}{L:Addr}{p:Addr×Obj}(hp:p∈rJ g h L):p.1≠L/\g.get? p.1=none/\h.get? p.1=some p.2:=by
 obtain⟨b,_,e⟩:=eU.mp hp;split at e
 ·cases e
 ·rename_i hn
  cases q:h.get? b with
  | none=>rw[q]at e;simp at e
  | some u =>
   rw[q]at e;simp only[bP,Option.some.injEq]at e;subst e;refine⟨λ z=>hn (.inl z),?_,q⟩;show g.get? b=none;cases r:g.get? b with
   | none=>rfl
   | some v=>exact(hn (.inr (by simp[r]))).elim
structure Mod (K:iF)(mg:iq)(base:Heap):Prop where
 kin:K.In base
 glob:base.Ns mainGlobals mg
 blt:∃ mb,base.Ns builtinsNs mb/\∀ x:Str,x≠"__name__"->mb x=bootBuiltins x
 nolimit:base.NoLimit
set_option genInjectivity false in
set_option genSizeOf false in
structure Cx where
 prog:Program
 w:World
 K:iF
 mg:Str->iA iG
 base:Heap
 A:Around
 N:List Str
 s₀:iH
 H₀:Hp
 env:Env
 outer:List Env
 stack:List Env
 ex:List Addr
 fn:Str->Bool
 calm:Bool
 pn:iJ
 xe:iG->iH->Prop
def frs (l:List Env):List Addr:=l.filterMap (·.frame)
abbrev Cx.fs (X:Cx):List Addr:=frs X.outer
def Vis (sc:Scope)(x:Str):Prop:=sc.names.lookup x=some .local\/sc.names.lookup x=some .cell\/sc.names.lookup x=some .free
def Loc (sc:Scope)(x:Str):Prop:=sc.names.lookup x=some .local\/sc.names.lookup x=some .cell
def Look (env:Env)(h:Heap)(m:iq)(x:Str)(u:iG):Prop :=
 (env.kindOf x=some .local/\m x=some u)\/((env.kindOf x=some .cell\/env.kindOf x=some .free)/\∃ c,env.cells.lookup x=some c/\h.IsCell c (some u))
structure Cx.Ok (X:Cx):Prop where
 mod:Mod X.K X.mg X.base
 kind:X.env.scope.kind=.function
 glob:X.env.globals=mainGlobals
 blt:X.env.builtins=builtinsNs
 above:X.s₀.heap.objs.size<=X.env.locals
 inj:∀ x y c,X.env.cells.lookup x=some c->X.env.cells.lookup y=some c->x=y
 has:∀ x,(X.env.kindOf x=some .cell\/X.env.kindOf x=some .free)->∃ c,X.env.cells.lookup x=some c
 cab:∀ x c,X.fn x=true->X.env.cells.lookup x=some c->X.s₀.heap.objs.size<=c
 hd:X.calm=true->X.A.handled=none
 frames:X.A.frames=some X.stack
 stk:X.stack=X.outer\/(X.stack=X.env::X.outer/\X.env.frame=some X.env.locals)
 exf:∀ b∈X.ex,b≠X.env.locals/\∀ x c,X.env.cells.lookup x=some c->c≠b
 bs:∀ b o,X.base.get? b=some o->X.s₀.heap.get? b=some o/\X.H₀ b=none
 bsz:X.base.objs.size<=X.s₀.heap.objs.size
 HQ:∀ b o,X.base.get? b=some o->b∉X.ex
 Me:∀ b∈X.ex,b∉X.fs
 xI:X.s₀.heap.FunFrames X.base X.outer
 frf:∀ b∈X.fs,X.H₀ b=none
structure Inv (X:Cx)(pins:iJ)(σ:List (iA V))(H:Hp)(s:iH):Prop where
 ok:X.Ok
 os:s.os=X.s₀.os
 bare:AllBare s.gens
 base:Un X.fs X.ex X.H₀ H X.s₀.heap s.heap
 loc:∃ m,s.heap.Ns X.env.locals m/\∀ (i:Nat) (x:Str) (v:V),X.N[i]?=some x->σ[i]?=some (some v)->Vis X.env.scope x->∃ u,RelV v u/\Look X.env s.heap m x u
 cell:∀ x c,X.env.cells.lookup x=some c->∃ v,s.heap.IsCell c v
 free:H X.env.locals=none
 qk:∀ x c,X.env.cells.lookup x=some c->H c=none
 pin:∀ p∈X.pn++pins,s.heap.get? p.1=some p.2/\H p.1=none/\p.1≠X.env.locals/\p.1∉X.fs/\∀ v,p.2.data≠.cell v
 hok:HOk X.prog X.w H s.heap
 len:σ.length=X.N.length
section
variable {X:Cx}{pins:iJ}{σ:List (iA V)}{H H':Hp}{s:iH}{h':Heap}
theorem Cx.Ok.UC (ok:X.Ok){b:Addr}{o:Obj}(e:X.base.get? b=some o):b∉X.fs:=λ hb=>by have:=(ok.xI.mem hb).1;rw[e]at this;cases this
theorem Inv.bs (I:Inv X pins σ H s):∀ b o,X.base.get? b=some o->s.heap.get? b=some o/\H b=none:=λ b o e =>⟨I.base.keep b o (I.ok.bs b o e).1 (I.ok.bs b o e).2 (I.ok.UC e) (I.ok.HQ b o e),I.base.free b o (I.ok.bs b o e).1 (I.ok.bs b o e).2 (I.ok.HQ b o e)⟩
theorem Inv.bk (I:Inv X pins σ H s):∀ b o,X.base.get? b=some o->s.heap.get? b=some o:=λ b o e=>(I.bs b o e).1
theorem Inv.mod (I:Inv X pins σ H s):Mod X.K X.mg X.base:=I.ok.mod
theorem Inv.kIn (I:Inv X pins σ H s):X.K.In s.heap:=I.ok.mod.kin.keeps I.bk
theorem Inv.fr (I:Inv X pins σ H s):∃ m,Fr X.base X.env.locals s.heap m :=
 let ⟨m,hn,_⟩:=I.loc
 ⟨m,hn,I.bk,bf I.ok.bsz I.ok.above⟩
theorem Inv.lt (I:Inv X pins σ H s):X.env.locals<s.heap.objs.size:=let ⟨_,hn,_⟩:=I.loc;hn.lt
theorem Inv.sz (I:Inv X pins σ H s):X.s₀.heap.objs.size<=s.heap.objs.size:=bf I.ok.above (fq I.lt)
theorem Inv.UD (I:Inv X pins σ H s){a:Addr}(h:s.heap.objs.size<=a):a∉X.fs:=λ hb=>by obtain⟨_,o,ho,_⟩:=I.ok.xI.mem hb;exact absurd (aJ (aE ho) (bf I.sz h)) (bD _)
theorem Inv.cne (I:Inv X pins σ H s):∀ x c,X.env.cells.lookup x=some c->c≠X.env.locals:=λ x c e z=>by obtain⟨v,o,ho,hd⟩:=I.cell x c e;obtain⟨m,⟨o',es,ep,ho',hd',_⟩,_⟩:=I.loc;rw[z,ho']at ho;cases ho;rw[hd']at hd;cases hd
theorem Inv.xI (I:Inv X pins σ H s):s.heap.FunFrames X.base X.outer:=by
 have all:∀ (l:List Env),(∀ b∈frs l,b∈X.fs)->X.s₀.heap.FunFrames X.base l->s.heap.FunFrames X.base l:=by
  intro l;induction l with
  | nil=>intro _ _;trivial
  | cons env r ih =>intro hs hl;obtain⟨hk,⟨L,o,hf,hn,ho,hd⟩,hr⟩:=hl;have hL:L∈X.fs:=hs L (by unfold frs;rw[da,hf];exact ar);obtain⟨sl,e⟩:=I.base.slot L o ho (I.ok.frf L hL) hL λ z=>I.ok.Me L z hL;exact⟨hk,⟨L,_,hf,hn,e,hd⟩,ih (λ b hb=>hs b (by unfold frs;rw[da,hf];exact av _ hb)) hr⟩
 exact all X.outer (λ _ hb=>hb) I.ok.xI
theorem Inv.stack (I:Inv X pins σ H s):s.heap.FunFrames X.base X.stack:=by
 rcases I.ok.stk with e | ⟨e,hf⟩
 ·rw[e];exact I.xI
 ·rw[e];obtain⟨m,hn,_⟩:=I.loc;refine .cons (by rw[I.ok.kind];decide) hf hn ?_ I.xI;exact gm (bf I.ok.bsz I.ok.above)
theorem Inv.A3 (I:Inv X pins σ H s):∀ b∈frs X.stack,b∈X.env.locals::X.fs:=λ b hb=>by
 rcases I.ok.stk with e | ⟨e,hf⟩
 ·rw[e]at hb;exact av _ hb
 ·rw[e]at hb;unfold frs at hb;rw[da,hf]at hb;exact hb
theorem Inv.F9 (I:Inv X pins σ H s):∀ b∈frs X.stack,H b=none:=λ b hb=>by
 rcases aN.mp (I.A3 b hb) with e | hb
 ·rw[e];exact I.free
 ·obtain⟨_,o,ho,_⟩:=I.ok.xI.mem hb;exact I.base.free b o ho (I.ok.frf b hb) λ z=>I.ok.Me b z hb
theorem Inv.step {g':Array GenState}{t':Nat}{d':Drawn}{ch:List Addr}(I:Inv X pins σ H s)
  (hch:∀ b∈ch,(b∈X.ex\/X.s₀.heap.objs.size<=b)/\b≠X.env.locals/\(∀ x c,X.env.cells.lookup x=some c->c≠b)/\∀ p∈X.pn++pins,p.1≠b)
  (keep:∀ b o,b≠X.env.locals->b∉X.fs->b∉ch->s.heap.get? b=some o->H b=none->h'.get? b=some o)
  (slot:∀ b o,b≠X.env.locals->b∈X.fs->b∉ch->s.heap.get? b=some o->H b=none->∃ sl,h'.get? b=some {o with slots:=sl}) (free:∀ b o,b∉ch->s.heap.get? b=some o->H b=none->H' b=none)
  (there:∀ b o,b∉ch->s.heap.get? b=some o->∃ o',h'.get? b=some o')
  (tK:∀ b xs,H b=some (.tup xs)->H' b=some (.tup xs)) (tL:∀ b o u,H b=some (.frz o u)->H' b=some (.frz o u)) (A1:∀ b ps,H b=some (.tbl ps)->∃ more,H' b=some (.tbl (ps++more)))
  (ns:∀ m,s.heap.Ns X.env.locals m->h'.Ns X.env.locals m) (hok:HOk X.prog X.w H' h') (hg:AllBare g') :
  Inv X pins σ H' {s with heap:=h',gens:=g',drawn:=d',toks:=t'}:=by
 have neL:∀ b o,X.s₀.heap.get? b=some o->b≠X.env.locals:=λ b o e=>bw (aJ (aE e) I.ok.above);have neC:∀ b o,X.s₀.heap.get? b=some o->b∉X.ex->b∉ch:=λ b o e hx hb=>by
  rcases (hch b hb).1 with z | z
  ·exact hx z
  ·exact absurd (aJ (aE e) z) (bD _)
 have cellK:∀ x c,X.env.cells.lookup x=some c->∀ v,s.heap.IsCell c v->h'.IsCell c v:=λ x c e v ⟨o,ho,hd⟩=>by
  have nch:c∉ch:=λ z=>(hch c z).2.2.1 x c e rfl;by_cases hc:c∈X.fs
  ·obtain⟨sl,q⟩:=slot c o (I.cne x c e) hc nch ho (I.qk x c e);exact⟨_,q,hd⟩
  ·exact⟨o,keep c o (I.cne x c e) hc nch ho (I.qk x c e),hd⟩
 refine⟨I.ok,I.os,hg,⟨λ b o e n hb hx=>?_,λ b o e n hb hx=>?_,λ b o e n hx=>?_,λ b o e hx=>?_,λ b xs e=>tK b xs (I.base.tK b xs e),λ b o xs e=>tL b o xs (I.base.tL b o xs e),λ b ps e=>?_⟩,?_,λ x c e=>?_,?_,λ x c e=>?_,λ p hp=>?_,hok,I.len⟩
 ·exact keep b o (neL b o e) hb (neC b o e hx) (I.base.keep b o e n hb hx) (I.base.free b o e n hx)
 ·obtain⟨sl,e1⟩:=I.base.slot b o e n hb hx;obtain⟨sl',e2⟩:=slot b _ (neL b o e) hb (neC b o e hx) e1 (I.base.free b o e n hx);exact⟨sl',e2⟩
 ·obtain⟨o',e1⟩:=I.base.there b o e hx;exact free b o' (neC b o e hx) e1 (I.base.free b o e n hx)
 ·obtain⟨o',e1⟩:=I.base.there b o e hx;exact there b o' (neC b o e hx) e1
 ·obtain⟨m1,e1⟩:=I.base.A1 b ps e;obtain⟨m2,e2⟩:=A1 b _ e1;exact⟨m1++m2,by rw[e2,Array.append_assoc]⟩
 ·obtain⟨m,hn,hl⟩:=I.loc
  refine⟨m,ns m hn,λ i x v e1 e2 e3=>?_⟩;obtain⟨u,r,l⟩:=hl i x v e1 e2 e3;refine⟨u,r,?_⟩;rcases l with l | ⟨k,c,e,z⟩
  ·exact .inl l
  ·exact .inr ⟨k,c,e,cellK x c e _ z⟩
 ·obtain⟨v,z⟩:=I.cell x c e;exact⟨v,cellK x c e v z⟩
 ·obtain⟨m,⟨o,_,_,ho,_⟩,_⟩:=I.loc;exact free _ o (λ z=>(hch _ z).2.1 rfl) ho I.free
 ·obtain⟨v,o,ho,hd⟩:=I.cell x c e;exact free c o (λ z=>(hch c z).2.2.1 x c e rfl) ho (I.qk x c e)
 ·obtain⟨e,n,ne,nf,d⟩:=I.pin p hp;have nch:p.1∉ch:=λ z=>(hch p.1 z).2.2.2 p hp rfl;exact⟨keep p.1 p.2 ne nf nch e n,free p.1 p.2 nch e n,ne,nf,d⟩
theorem Inv.un {t':Nat}(I:Inv X pins σ H s)(u:Un X.fs [] H H' s.heap h')(hok:HOk X.prog X.w H' h'):Inv X pins σ H' {s with heap:=h',toks:=t'}:=by obtain⟨m,⟨o,es,ep,ho,r⟩,_⟩:=id I.loc;obtain⟨sl,hL⟩:=u.any ho I.free (by simp);exact I.step (g':=s.gens) (d':=s.drawn) (ch:=[]) (λ _ z=>nomatch z) (λ b o _ hb _ e n=>u.keep b o e n hb (by simp)) (λ b o _ hb _ e n=>u.slot b o e n hb (by simp)) (λ b o _ e n=>u.free b o e n (by simp)) (λ b o _ e=>u.there b o e (by simp)) u.tK u.tL u.A1 (λ m' hm=>by obtain⟨o',es',ep',ho',r'⟩:=hm;rw[ho]at ho';cases ho';exact⟨_,es',ep',hL,r'⟩) hok I.bare
theorem Inv.call {g':Array GenState}{t':Nat}{d':Drawn}{ch:List Addr}(I:Inv X pins σ H s)(u:Un (frs X.stack) ch H H' s.heap h')(hok:HOk X.prog X.w H' h')(hg:AllBare g')
  (hch:∀ b∈ch,(b∈X.ex\/X.s₀.heap.objs.size<=b)/\b≠X.env.locals/\(∀ x c,X.env.cells.lookup x=some c->c≠b)/\∀ p∈X.pn++pins,p.1≠b) :
  Inv X pins σ H' {s with heap:=h',gens:=g',drawn:=d',toks:=t'}:=by
 obtain⟨m,⟨o,es,ep,ho,r⟩,_⟩:=id I.loc;obtain⟨sl,hL⟩:=u.any ho I.free λ z=>(hch _ z).2.1 rfl;exact I.step (ch:=ch) hch (λ b o hL hb hc e n=>u.keep b o e n (λ z=>(aN.mp (I.A3 b z)).elim hL hb) hc) (λ b o _ _ hc e n=>u.any e n hc) (λ b o hc e n=>u.free b o e n hc) (λ b o hc e=>u.there b o e hc) u.tK u.tL u.A1 (λ m' hm=>by obtain⟨o',es',ep',ho',r'⟩:=hm;rw[ho]at ho';cases ho';exact⟨_,es',ep',hL,r'⟩) hok hg
theorem Inv.turned {t':Nat}{it:Addr}(I:Inv X pins σ H s)(k:∀ b o,b≠it->s.heap.get? b=some o->h'.get? b=some o)(hn:H it=none)(hL:it≠X.env.locals)
  (h1:it∈X.ex\/X.s₀.heap.objs.size<=it) (h2:∀ x c,X.env.cells.lookup x=some c->c≠it) (h3:∀ p∈X.pn++pins,p.1≠it):Inv X pins σ H {s with heap:=h',toks:=t'}:=by
 have nit:∀ b u,H b=some u->b≠it:=λ b u e z=>by rw[z,hn]at e;cases e
 refine I.step (g':=s.gens) (d':=s.drawn) (ch:=[it]) (λ b hb=>?_) (λ b o _ _ hc e _=>k b o (λ z=>hc (by simp[z])) e) (λ b o _ _ hc e _=>⟨o.slots,k b o (λ z=>hc (by simp[z])) e⟩) (λ _ _ _ _ n=>n)
  (λ b o hc e=>⟨o,k b o (λ z=>hc (by simp[z])) e⟩) (λ _ _ e=>e) (λ _ _ _ e=>e) (λ b ps e=>⟨#[],by rw[e];simp⟩) (λ m hm=>?_) (λ b u e=>?_) I.bare
 ·have e:b=it:=by simpa using hb
  subst e;exact⟨h1,hL,h2,h3⟩
 ·obtain⟨o,es,ep,ho,r⟩:=hm;exact⟨o,es,ep,k _ o (aX hL) ho,r⟩
 ·refine(I.hok b u e).CA (λ c v hc q=>k c v ?_ q) (λ _ q=>q) λ _ _ q=>q
  rcases hc with z | z
  ·rw[z];exact nit b u e
  ·exact nit c _ z
theorem Inv.tok (I:Inv X pins σ H s)(t:Nat):Inv X pins σ H {s with toks:=t}:=I.un (h':=s.heap) (t':=t) Un.refl I.hok
theorem Inv.kept {t':Nat}(I:Inv X pins σ H s)(k:∀ b u,s.heap.get? b=some u->h'.get? b=some u):Inv X pins σ H {s with heap:=h',toks:=t'}:=I.un (Un.kept k) (I.hok.kept k)
theorem Inv.laid {a:Addr}{o:HO}{t':Nat}(I:Inv X pins σ H s)(k:∀ b u,s.heap.get? b=some u->h'.get? b=some u)(hp:s.heap.objs.size<=a)(new:kR X.prog X.w (upd H a o) h' a o) :
  Inv X pins σ (upd H a o) {s with heap:=h',toks:=t'}:=I.un (Un.laid k hp (I.hok.fresh hp)) (I.hok.laid k hp new)
theorem Inv.write {x e:Addr}{o:HO}{t':Nat}(I:Inv X pins σ H s)(mu:Mut (H x))(he:e=x\/H e=some (.own x))(k:∀ b u,b≠e->s.heap.get? b=some u->h'.get? b=some u)(heo:∃ u,h'.get? e=some u)
  (new:kR X.prog X.w (upd H x o) h' x o):Inv X pins σ (upd H x o) {s with heap:=h',toks:=t'}:=I.un (Un.write mu he k heo) (I.hok.write mu he k heo new)
theorem Inv.weak {σ':List (iA V)}(I:Inv X pins σ H s)(hl:σ'.length=σ.length)(w:∀ (i:Nat) v,σ'[i]?=some (some v)->σ[i]?=some (some v)):Inv X pins σ' H s :=
 ⟨I.ok,I.os,I.bare,I.base,let ⟨m,hn,hl'⟩:=I.loc;⟨m,hn,λ i x v e1 e2 e3=>hl' i x v e1 (w i v e2) e3⟩,I.cell,I.free,I.qk,I.pin,I.hok,hl.trans I.len⟩
theorem Inv.xj {pins':iJ}(I:Inv X pins σ H s)(h:∀ p∈pins',s.heap.get? p.1=some p.2/\H p.1=none/\p.1≠X.env.locals/\p.1∉X.fs/\∀ v,p.2.data≠.cell v):Inv X pins' σ H s :=
 ⟨I.ok,I.os,I.bare,I.base,I.loc,I.cell,I.free,I.qk,λ p hp=>(bG.mp hp).elim (λ z=>I.pin p (bL _ z)) (h p),I.hok,I.len⟩
theorem CC {N:List Str}(hN:N.Nodup){i j:Nat}{x:Str}(a:N[i]?=some x)(b:N[j]?=some x):i=j:=by obtain⟨h1,e1⟩:=ba.mp a;obtain⟨h2,e2⟩:=ba.mp b;exact(List.getElem_inj hN).mp (e1.trans e2.symm)
theorem Ah {M:Model}{A:Around}{E:ir}{i:Nat}{x:Str}{v:V}{u:iG}{Q:Unit->iH->Prop}(I:Inv X pins σ H s)(hN:X.N.Nodup)(hi:X.N[i]?=some x)(hx:Loc X.env.scope x)(r:RelV v u)
  (h:∀ s',Inv X pins (σ.set i (some v)) H s'->(∃ a,Heap.SameBut a s.heap s'.heap/\(a=X.env.locals\/X.env.cells.lookup x=some a))->Q () s') (hf:X.fn x=true\/X.env.scope.names.lookup x=some .local):wpAny M A (storeName X.env x u) Q E s:=by
 obtain⟨m,hn,hl⟩:=id I.loc;have hcls:(X.env.scope.kind==.class || (X.env.scope.kind==.module&&X.env.locals != X.env.globals))=false:=by rw[I.ok.kind];rfl
 have hiσ:i<σ.length:=by rw[I.len];exact(ba.mp hi).1
 have cne:=I.cne;have tracked:∀ {a:Addr} {h':Heap},(∃ o,s.heap.get? a=some o/\H a=none)->Heap.SameBut a s.heap h'->HOk X.prog X.w H h':=λ{a h'} ha hs b ob e=>by
  obtain⟨_,_,hfree⟩:=ha;refine(I.hok b ob e).CA (λ c w' hc q=>(hs.2 c ?_).trans q) (λ _ q=>q) λ _ _ q=>q;rintro rfl;rcases hc with rfl | hc
  ·rw[hfree]at e;cases e
  ·rw[hfree]at hc;cases hc
 rcases hx with hk | hk
 ·refine wpAny_storeName_local hk hn (λ h' hn' hs=>?_) hcls
  obtain⟨oL,_,_,hoL,_⟩:=id hn;refine h _ ⟨I.ok,I.os,I.bare,⟨λ b o e n hb hx=>?_,λ b o e n hb hx=>?_,I.base.free,λ b o e hx=>?_,I.base.tK,I.base.tL,I.base.A1⟩,⟨_,hn',λ j y v' e1 e2 e3=>?_⟩,λ y c e=>?_,I.free,I.qk,λ p hp=>?_,tracked ⟨oL,hoL,I.free⟩ hs,by simpa using I.len⟩ ⟨_,hs,.inl rfl⟩
  ·exact(hs.2 b (bw (aJ (aE e) I.ok.above))).trans (I.base.keep b o e n hb hx)
  ·obtain⟨sl,e1⟩:=I.base.slot b o e n hb hx;exact⟨sl,(hs.2 b (bw (aJ (aE e) I.ok.above))).trans e1⟩
  ·obtain⟨o',e1⟩:=I.base.there b o e hx;exact⟨o',(hs.2 b (bw (aJ (aE e) I.ok.above))).trans e1⟩
  ·by_cases hj:j=i
   ·subst hj;rw[hi]at e1;cases e1;rw[cW hiσ]at e2;cases e2;exact⟨u,r,.inl ⟨hk,by simp⟩⟩
   ·rw[bM (aX hj)]at e2
    obtain⟨u',r',q⟩:=hl j y v' e1 e2 e3;refine⟨u',r',?_⟩;rcases q with⟨k,e⟩ | ⟨k,c,e,z⟩
    ·refine .inl ⟨k,?_⟩;have:y≠x:=λ e=>hj (CC hN e1 (e▸hi));simp[this,e]
    ·exact .inr ⟨k,c,e,z.sameBut hs (cne y c e)⟩
  ·obtain⟨w',z⟩:=I.cell y c e;exact⟨w',z.sameBut hs (cne y c e)⟩
  ·obtain⟨e,n,ne,nf,d⟩:=I.pin p hp;exact⟨(hs.2 p.1 ne).trans e,n,ne,nf,d⟩
 ·have hfn:X.fn x=true:=by
   rcases hf with z | z
   ·exact z
   ·rw[z]at hk;cases hk
  obtain⟨c,hc⟩:=I.ok.has x (.inl hk);obtain⟨w',z⟩:=I.cell x c hc;refine wpAny_storeName_cell I.ok.kind hk hc z (λ h' hc' hs=>?_);obtain⟨oc,hoc,hocd⟩:=id z;refine h {s with heap:=h'} ⟨I.ok,I.os,I.bare,⟨λ b o e n hb hx=>?_,λ b o e n hb hx=>?_,I.base.free,λ b o e hx=>?_,I.base.tK,I.base.tL,I.base.A1⟩,⟨m,hn.sameBut hs (aX (cne x c hc)),λ j y v' e1 e2 e3=>?_⟩,λ y c' e=>?_,I.free,I.qk,λ p hp=>?_,tracked ⟨oc,hoc,I.qk x c hc⟩ hs,by simpa using I.len⟩ ⟨c,hs,.inr hc⟩
  ·exact(hs.2 b (bw (aJ (aE e) (I.ok.cab x c hfn hc)))).trans (I.base.keep b o e n hb hx)
  ·obtain⟨sl,e1⟩:=I.base.slot b o e n hb hx;exact⟨sl,(hs.2 b (bw (aJ (aE e) (I.ok.cab x c hfn hc)))).trans e1⟩
  ·obtain⟨o',e1⟩:=I.base.there b o e hx;exact⟨o',(hs.2 b (bw (aJ (aE e) (I.ok.cab x c hfn hc)))).trans e1⟩
  ·by_cases hj:j=i
   ·subst hj;rw[hi]at e1;cases e1;rw[cW hiσ]at e2;cases e2;exact⟨u,r,.inr ⟨.inl hk,c,hc,hc'⟩⟩
   ·rw[bM (aX hj)]at e2
    obtain⟨u',r',q⟩:=hl j y v' e1 e2 e3;refine⟨u',r',?_⟩;rcases q with q | ⟨k,c',e,z'⟩
    ·exact .inl q
    ·refine .inr ⟨k,c',e,z'.sameBut hs ?_⟩;rintro rfl;exact hj (CC hN e1 (I.ok.inj _ _ _ e hc▸hi))
  ·by_cases hcc:c'=c
   ·subst hcc;exact⟨_,hc'⟩
   ·obtain⟨w2,z2⟩:=I.cell y c' e;exact⟨w2,z2.sameBut hs hcc⟩
  ·obtain⟨e,n,ne,nf,d⟩:=I.pin p hp;refine⟨(hs.2 p.1 ?_).trans e,n,ne,nf,d⟩;intro q;rw[q,hoc]at e;have q':oc=p.2:=aF e;exact d w' (by rw[<-q'];exact hocd)
theorem tM {M:Model}{A:Around}{E:ir}{i:Nat}{x:Str}{v:V}{u:iG}{Q:Unit->iH->Prop}(I:Inv X pins σ H s)(hN:X.N.Nodup)(hi:X.N[i]?=some x)(hx:Loc X.env.scope x)(r:RelV v u)
  (h:∀ s',Inv X pins (σ.set i (some v)) H s'->Q () s') (hf:X.fn x=true\/X.env.scope.names.lookup x=some .local:=by trivial):wpAny M A (storeName X.env x u) Q E s :=
 Ah I hN hi hx r (λ s' I' _=>h s' I') hf
theorem Inv.RI {s':iH}{ch:List Addr}(I:Inv X pins σ H s)(ho:s'.os=s.os)(u:Un (frs X.stack) ch H H' s.heap s'.heap)(hok:HOk X.prog X.w H' s'.heap)(hg:AllBare s'.gens)
  (hch:∀ b∈ch,(b∈X.ex\/X.s₀.heap.objs.size<=b)/\b≠X.env.locals/\(∀ x c,X.env.cells.lookup x=some c->c≠b)/\∀ p∈X.pn++pins,p.1≠b):Inv X pins σ H' s':=by
 obtain⟨h',g',d',t',o'⟩:=s';have e:o'=s.os:=ho;subst e;exact I.call (g':=g') (t':=t') (d':=d') u hok hg hch
end
abbrev XK:=iG->iA Addr->Hp->Prop
abbrev St:=List (iA V)
abbrev VK:=V->Hp->Prop
abbrev TE:=St->Hp->VK->Prop
abbrev TT:=St->Hp->(Bool->Hp->Prop)->Prop
abbrev TA:=St->Hp->(List V->Hp->Prop)->Prop
set_option genInjectivity false in
set_option genSizeOf false in
structure Ends where
 nx:St->Hp->Prop
 rt:VK
 bk:St->Hp->Prop:=λ _ _=>False
 ct:St->Hp->Prop:=λ _ _=>False
abbrev TS:=Ends->St->Hp->Prop
def EP (X:Cx)(pins:iJ)(σ:St)(Q:VK)(u:iG)(s':iH):Prop:=∃ v H',Inv X pins σ H' s'/\RelV v u/\Q v H'
def TP (X:Cx)(pins:iJ)(σ:St)(Q:Bool->Hp->Prop)(b:Bool)(s':iH):Prop:=∃ H',Inv X pins σ H' s'/\Q b H'
def AP (X:Cx)(pins:iJ)(σ:St)(Q:List V->Hp->Prop)(us:List iG)(s':iH):Prop:=∃ vs H',Inv X pins σ H' s'/\Vals vs us/\Q vs H'
def SP (X:Cx)(pins:iJ)(D:Ends)(f:Flow)(s':iH):Prop :=
 match f with
 | .next=>∃ σ' H',Inv X pins σ' H' s'/\D.nx σ' H'
 | .brk=>∃ σ' H',Inv X pins σ' H' s'/\D.bk σ' H'
 | .cont=>∃ σ' H',Inv X pins σ' H' s'/\D.ct σ' H'
 | .ret u=>∃ v σ' H',Inv X pins σ' H' s'/\RelV v u/\D.rt v H'
def PE (X:Cx)(e:Expr)(t:TE):Prop :=
 ∀ (pins:iJ) (s:iH) (σ:St) (H:Hp) (Q:VK),Inv X pins σ H s->t σ H Q->wpAny (model X.prog X.w) X.A (eval e X.env) (EP X pins σ Q) X.xe s
def PT (X:Cx)(e:Expr)(t:TT):Prop :=
 ∀ (pins:iJ) (s:iH) (σ:St) (H:Hp) (Q:Bool->Hp->Prop),Inv X pins σ H s->t σ H Q->wpAny (model X.prog X.w) X.A (isTrue e X.env (eval e X.env)) (TP X pins σ Q) X.xe s
def PW (X:Cx)(e:Expr)(t:TT):Prop :=
 ∀ (whole:Sem iG) (pins:iJ) (s:iH) (σ:St) (H:Hp) (Q:Bool->Hp->Prop),Inv X pins σ H s->t σ H Q->wpAny (model X.prog X.w) X.A (isTrue e X.env whole) (TP X pins σ Q) X.xe s
theorem PW.pt {X:Cx}{e:Expr}{t:TT}(h:PW X e t):PT X e t:=h _
def PA (X:Cx)(es:List Expr)(t:TA):Prop :=
 ∀ (pos:Pos) (pins:iJ) (s:iH) (σ:St) (H:Hp) (Q:List V->Hp->Prop),Inv X pins σ H s->t σ H Q->wpAny (model X.prog X.w) X.A (spliced (backTo pos (starEach es X.env))) (AP X pins σ Q) X.xe s
def PS (X:Cx)(st:Stmt)(t:TS):Prop :=
 ∀ (pins:iJ) (s:iH) (σ:St) (H:Hp) (D:Ends),Inv X pins σ H s->t D σ H->wpAny (model X.prog X.w) X.A (exec st X.env) (SP X pins D) X.xe s
def PSs (X:Cx)(st:List Stmt)(t:TS):Prop :=
 ∀ (pins:iJ) (s:iH) (σ:St) (H:Hp) (D:Ends),Inv X pins σ H s->t D σ H->wpAny (model X.prog X.w) X.A (execs st X.env) (SP X pins D) X.xe s
theorem thn {α:Type}{t:Sem α}{Q Q':α->iH->Prop}{M:Model}{A:Around}{E:ir}{s:iH}(h:wpAny M A t Q E s)(hQ:∀ a s,Q a s->Q' a s):wpAny M A t Q' E s:=fh h hQ λ _ _ x=>x
section
variable {X:Cx}
theorem bin {a b:Expr}{ta tb:TE}(ha:PE X a ta)(hb:PE X b tb){pins:iJ}{s:iH}{σ:St}{H:Hp}{R:V->V->Hp->Prop}(I:Inv X pins σ H s)(h:ta σ H λ x H1=>tb σ H1 λ y H2=>R x y H2)
  {α:Type} {Q:α->iH->Prop} {f:iG->iG->Sem α}
  (hf:∀ v u s2 x y H2,Inv X pins σ H2 s2->RelV x v->RelV y u->R x y H2->wpAny (model X.prog X.w) X.A (f v u) Q X.xe s2) :
  wpAny (model X.prog X.w) X.A (eval a X.env) (λ v s₁=>wpAny (model X.prog X.w) X.A (eval b X.env) (λ u s₂=>wpAny (model X.prog X.w) X.A (f v u) Q X.xe s₂) X.xe s₁) X.xe s:=by
 refine thn (ha pins s σ H _ I h) λ v s1 ⟨x,H1,I1,r1,q1⟩=>?_;refine thn (hb pins s1 σ H1 _ I1 q1) λ u s2 ⟨y,H2,I2,r2,q2⟩=>?_;exact hf v u s2 x y H2 I2 r1 r2 q2
def jj (i:Nat):TE:=λ σ H Q=>∃ v,σ[i]?=some (some v)/\Q v H
def tC (v:V):TE:=λ _ H Q=>Q v H
theorem Jk {i:Nat}{x:Str}{pos:Pos}(hN:X.N[i]?=some x)(hv:Vis X.env.scope x)(hd:(x==("__debug__":Str))=false:=by decide)(hcd:(x==("__classdict__":Str))=false:=by decide):PE X (.Name x pos) (jj i):=by
 intro pins s σ H Q I h;obtain⟨v,e,h⟩:=h;obtain⟨m,hn,hl⟩:=I.loc;obtain⟨u,r,l⟩:=hl i x v hN e hv;have fin:EP X pins σ Q u s:=⟨v,H,I,r,h⟩;rcases l with⟨hk,hm⟩ | ⟨hk,c,hc,hcell⟩
 ·exact wpAny_Name (wpAny_loadName_local I.ok.kind hk hn hm fin) hd
 ·rcases hk with hk | hk
  ·exact wpAny_Name (wpAny_loadName_cell I.ok.kind hk hc hcell fin) hd
  ·exact wpAny_Name (wpAny_loadName_free I.ok.kind hk hc hcell fin hcd) hd
theorem jd {i j pos}:PE X (.Constant (.int i) j pos) (tC (.int i)):=λ _ _ _ H _ I h=>wpAny_Constant_int ⟨.int i,H,I.tok _,⟨_,rfl⟩,h⟩
theorem Jl {b j pos}:PE X (.Constant (.bool b) j pos) (tC (.bl b)):=λ _ _ _ H _ I h=>Constant_bool ⟨.bl b,H,I,rfl,h⟩
theorem Jm {j pos}:PE X (.Constant .none j pos) (tC .non):=λ _ _ _ H _ I h=>Constant_none ⟨.non,H,I,rfl,h⟩
def Gl (X:Cx)(x:Str):Prop:=X.env.kindOf x=some .globalImplicit
theorem F_ {E:ir}{pins:iJ}{s:iH}{σ:St}{H:Hp}{x:Str}{u:iG}{pos:Pos}{Q:ir}(I:Inv X pins σ H s)(hg:Gl X x)(hm:X.mg x=some u)(h:Q u s)
  (hd:(x==("__debug__":Str))=false:=by decide):wpAny (model X.prog X.w) X.A (eval (.Name x pos) X.env) Q E s :=
 Calls.Name_function_global I.ok.kind hg (Calls.loadGlobal_global (by rw[I.ok.glob];exact I.mod.glob.keeps I.bk) hm h) hd
theorem sH {E:ir}{pins:iJ}{s:iH}{σ:St}{H:Hp}{x:Str}{u:iG}{pos:Pos}{Q:ir}(I:Inv X pins σ H s)(hg:Gl X x)(hm:X.mg x=none)(hv:bootBuiltins x=some u)(h:Q u s)
  (hn:x≠"__name__":=by decide) (hd:(x==("__debug__":Str))=false:=by decide):wpAny (model X.prog X.w) X.A (eval (.Name x pos) X.env) Q E s:=by
 obtain⟨mb,h1,h2⟩:=I.mod.blt;exact Calls.Name_function_global I.ok.kind hg (Calls.loadGlobal_builtin (by rw[I.ok.glob];exact I.mod.glob.keeps I.bk) hm (by rw[I.ok.blt];exact h1.keeps I.bk) ((h2 x hn).trans hv) h) hd
theorem Mf {x:Str}{v:V}{u:iG}{pos:Pos}(hg:Gl X x)(hm:X.mg x=some u)(r:RelV v u)(hd:(x==("__debug__":Str))=false:=by decide):PE X (.Name x pos) (tC v) :=
 λ _ _ _ H _ I h=>F_ I hg hm ⟨v,H,I,r,h⟩ hd
theorem Mg {x:Str}{v:V}{u:iG}{pos:Pos}(hg:Gl X x)(hm:X.mg x=none)(hv:bootBuiltins x=some u)(r:RelV v u)(hn:x≠"__name__":=by decide)(hd:(x==("__debug__":Str))=false:=by decide):PE X (.Name x pos) (tC v) :=
 λ _ _ _ H _ I h=>sH I hg hm hv ⟨v,H,I,r,h⟩ hn hd
variable {a b:Expr}{ta tb:TE}{pos:Pos}
def PC (X:Cx)(op:CmpOp)(a b:Expr)(t:TE):Prop :=
 ∀ (pins:iJ) (s:iH) (σ:St) (H:Hp) (Q:VK),Inv X pins σ H s->t σ H Q ->
  wpAny (model X.prog X.w) X.A (eval a X.env) (λ v s₁=>wpAny (model X.prog X.w) X.A (eval b X.env) (λ u s₂=>wpAny (model X.prog X.w) X.A (compareOp op v u) (EP X pins σ Q) X.xe s₂) X.xe s₁) X.xe s
def tB (t:TE):TT:=λ σ H Q=>t σ H λ x H1=>∃ c,x=.bl c/\Q c H1
theorem Jn {op:CmpOp}{t:TE}(h:PC X op a b t)(h1:behindInMarks op b=false):PT X (.Compare a [op] [b] pos) (tB t):=by intro pins s σ H Q I hw;refine wpAny_isTrue_Compare1 (thn (h pins s σ H _ I hw) λ v s1 h1=>thn h1 λ u s2 h2=>thn h2 λ c s3 ⟨x,H1,I1,r1,q1⟩=>?_) h1;obtain⟨d,rfl,q⟩:=q1;cases r1;exact cx ⟨H1,I1,q⟩
variable {tA tB':TT}{rest:List Expr}
def tOr (t u:TT):TT:=λ σ H Q=>t σ H λ c H1=>if c=true then Q true H1 else u σ H1 Q
def RJ (t:TT):TT:=λ σ H Q=>t σ H λ c H1=>Q (!c) H1
theorem Pf (ha:PT X a tA):PW X (.BoolOp .Or [a] pos) tA:=by
 intro wh pins s σ H Q I h;refine isTrue_or (thn (ha pins s σ H Q I h) λ c s1 e=>?_);cases c with
 | false=>exact isTrue_or_nil e
 | true=>exact e
theorem RK (ha:PT X a tA)(hb:PW X (.BoolOp .Or (b::rest) pos) tB'):PW X (.BoolOp .Or (a::b::rest) pos) (tOr tA tB'):=by
 intro wh pins s σ H Q I h;refine isTrue_or (thn (ha pins s σ H _ I h) λ c s1 ⟨H1,I1,q1⟩=>?_);cases c with
 | true=>exact⟨H1,I1,q1⟩
 | false=>exact hb wh pins s1 σ H1 Q I1 q1
theorem Jo (ha:PT X a tA):PT X (.UnaryOp .Not a pos) (RJ tA):=by intro pins s σ H Q I h;exact isTrue_not (ha pins s σ H (λ c H1=>Q (!c) H1) I h)
def RL (ta tb:TE):TE:=λ σ H Q=>ta σ H λ x H1=>∃ c,x=.bl c/\if c=true then tb σ H1 Q else Q (.bl false) H1
def UE (ta tb:TE):TE:=λ σ H Q=>ta σ H λ x H1=>∃ c,x=.bl c/\if c=true then Q (.bl true) H1 else tb σ H1 Q
def RM (ta:TE):TE:=λ σ H Q=>ta σ H λ x H1=>∃ c,x=.bl c/\Q (.bl (!c)) H1
theorem Pg {op}{t:TE}(h:PE X a t):PE X (.BoolOp op [a] pos) t:=λ pins s σ H Q I hw=>BoolOp_one (h pins s σ H Q I hw)
theorem Ph (ha:PE X a ta)(hb:PE X (.BoolOp .And (b::rest) pos) tb):PE X (.BoolOp .And (a::b::rest) pos) (RL ta tb):=by
 intro pins s σ H Q I h;refine BoolOp_and (thn (ha pins s σ H _ I h) λ v s1 ⟨x,H1,I1,r1,q1⟩=>?_);obtain⟨c,rfl,q1⟩:=q1;cases r1;refine cx ?_;cases c with
 | true=>exact hb pins s1 σ H1 Q I1 q1
 | false=>exact⟨.bl false,H1,I1,rfl,q1⟩
theorem RN (ha:PE X a ta)(hb:PE X (.BoolOp .Or (b::rest) pos) tb):PE X (.BoolOp .Or (a::b::rest) pos) (UE ta tb):=by
 intro pins s σ H Q I h;refine BoolOp_or (thn (ha pins s σ H _ I h) λ v s1 ⟨x,H1,I1,r1,q1⟩=>?_);obtain⟨c,rfl,q1⟩:=q1;cases r1;refine cx ?_;cases c with
 | false=>exact hb pins s1 σ H1 Q I1 q1
 | true=>exact⟨.bl true,H1,I1,rfl,q1⟩
theorem Pj (ha:PE X a ta):PE X (.UnaryOp .Not a pos) (RM ta):=by intro pins s σ H Q I h;refine UnaryOp_ (thn (ha pins s σ H _ I h) λ v s1 ⟨x,H1,I1,r1,q1⟩=>?_);obtain⟨c,rfl,q1⟩:=q1;cases r1;exact not_of (cx ⟨.bl (!c),H1,I1,rfl,q1⟩)
def tIf (t:TT)(ta tb:TE):TE:=λ σ H Q=>t σ H λ c H1=>if c=true then ta σ H1 Q else tb σ H1 Q
theorem Jp {c:Expr}(hc:PT X c tA)(ha:PE X a ta)(hb:PE X b tb):PE X (.IfExp c a b pos) (tIf tA ta tb):=by
 intro pins s σ H Q I h;refine wpAny_IfExp (thn (hc pins s σ H _ I h) λ d s1 ⟨H1,I1,q1⟩=>?_);cases d with
 | true=>exact ha pins s1 σ H1 Q I1 q1
 | false=>exact hb pins s1 σ H1 Q I1 q1
end
def SqL (K:iF)(H:Hp)(a:Addr)(xs:List V):Prop :=
 Rd H a (.lst xs) \/
  ∃ (o:Obj) (its:Array iG) (n:Nat),K.lookup a=some o/\o.cls=.type "list"/\o.dict=none/\o.data=.seq its n/\its.size<=sizeLine/\Vals xs its.toList
def SqT (K:iF)(H:Hp)(a:Addr)(xs:List V):Prop :=
 Rd H a (.tup xs) \/
  ∃ (o:Obj) (its:Array iG) (n:Nat),K.lookup a=some o/\(o.cls=.type "tuple"/\o.dict=none)/\o.data=.seq its n/\its.size<=sizeLine/\Vals xs its.toList
def UG:iG->iA V
 | .none=>some .non
 | .bool b=>some (.bl b)
 | .int i _=>some (.int i)
 | .str x _=>some (.str x)
 | .bytes b _=>some (.byt b)
 | .float b _=>some (.flt b)
 | .ref a=>some (.ref a)
 | .type n=>some (.ty n)
 | _=>none
theorem RelV.abs {x:V}{u:iG}(r:RelV x u):UG u=some x:=by
 cases x with
 | non=>cases r;rfl
 | bl _=>cases r;rfl
 | int _=>obtain⟨t,rfl⟩:=r;rfl
 | str _=>obtain⟨t,rfl⟩:=r;rfl
 | byt _=>obtain⟨t,rfl⟩:=r;rfl
 | flt _=>obtain⟨t,rfl⟩:=r;rfl
 | ref _=>cases r;rfl
 | ty _=>cases r;rfl
theorem RelV.inj {x y:V}{u:iG}(r:RelV x u)(q:RelV y u):x=y:=aF (r.abs.symm.trans q.abs)
theorem Vals.inj:∀ {xs ys:List V} {us:List iG},Vals xs us->Vals ys us->xs=ys
 := by
  intro xs ys us h;induction h generalizing ys with
  | nil=>intro h';cases h';rfl
  | cons r t ih=>intro h';cases h' with | cons r' t'=>rw[r.inj r',ih t']
section
variable {X:Cx}{pins:iJ}{σ:St}{H:Hp}{s:iH}{a:Addr}{xs ys:List V}
theorem SqL.of {K:iF}(h:H a=some (.lst xs)):SqL K H a xs:=.inl (.inl h)
theorem SqT.of {K:iF}(h:H a=some (.tup xs)):SqT K H a xs:=.inl (.inl h)
theorem Inv.list (I:Inv X pins σ H s)(h:SqL X.K H a xs):∃ its:List iG,Vals xs its/\PlainL s.heap a its.toArray/\xs.length<=sizeLine:=by
 rcases h with h | ⟨o,its,n,hk,hc,hd,hs,hz,r⟩
 ·obtain⟨z,its,n,r,e⟩:=h.ok I.hok;exact⟨its,r,⟨_,n,e,rfl,rfl,rfl⟩,z⟩
 ·refine⟨its.toList,r,⟨o,n,I.kIn a o hk,hc,hd,by simpa using hs⟩,?_⟩;have e:=r.length;simp only[cL]at e;lia
theorem Inv.tuple (I:Inv X pins σ H s)(h:SqT X.K H a xs):∃ its:List iG,Vals xs its/\IsTup s.heap a its.toArray/\xs.length<=sizeLine:=by
 rcases h with h | ⟨o,its,n,hk,hc,hs,hz,r⟩
 ·obtain⟨z,its,r,p⟩:=h.ok I.hok;exact⟨its,r,p,z.1⟩
 ·refine⟨its.toList,r,⟨o,I.kIn a o hk,hc.1,n,by simpa using hs⟩,?_⟩;have e:=r.length;simp only[cL]at e;lia
theorem Inv.xJ (I:Inv X pins σ H s)(h:SqT X.K H a xs):∃ ob,s.heap.get? a=some ob/\ob.dict=none:=by
 rcases h with h | ⟨o,its,n,hk,hc,hs,hz,r⟩
 ·obtain⟨z,its,r,p⟩:=h.ok I.hok;exact z.2
 ·exact⟨o,I.kIn a o hk,hc.2⟩
theorem Inv.CD (I:Inv X pins σ H s)(h:SqL X.K H a xs)(h':SqL X.K H a ys):xs=ys:=by
 obtain⟨its,r,⟨o,n,e,_,_,d⟩,_⟩:=I.list h;obtain⟨its',r',⟨o',n',e',_,_,d'⟩,_⟩:=I.list h';rw[e]at e';cases e';rw[d]at d';injection d' with d1 _;have:its=its':=by simpa using cK Array.toList d1
 subst this;exact r.inj r'
theorem Inv.vb (I:Inv X pins σ H s)(h:SqT X.K H a xs)(h':SqT X.K H a ys):xs=ys:=by
 obtain⟨its,r,⟨o,e,_,n,d⟩,_⟩:=I.tuple h;obtain⟨its',r',⟨o',e',_,n',d'⟩,_⟩:=I.tuple h';rw[e]at e';cases e';rw[d]at d';injection d' with d1 _;have:its=its':=by simpa using cK Array.toList d1
 subst this;exact r.inj r'
end
abbrev Cx.zO (X:Cx)(E:ir):Cx:={X with xe:=E}
abbrev Cx.nox (X:Cx):Cx:=X.zO λ _ _=>False
theorem Cx.Ok.zO {X:Cx}(ok:X.Ok)(E:ir):(X.zO E).Ok :=
 ⟨ok.mod,ok.kind,ok.glob,ok.blt,ok.above,ok.inj,ok.has,ok.cab,ok.hd,ok.frames,ok.stk,ok.exf,ok.bs,ok.bsz,ok.HQ,ok.Me,ok.xI,ok.frf⟩
theorem Cx.Ok.qw {X:Cx}{E:ir}(ok:(X.zO E).Ok):X.Ok :=
 ⟨ok.mod,ok.kind,ok.glob,ok.blt,ok.above,ok.inj,ok.has,ok.cab,ok.hd,ok.frames,ok.stk,ok.exf,ok.bs,ok.bsz,ok.HQ,ok.Me,ok.xI,ok.frf⟩
section
variable {X:Cx}{pins:iJ}{σ:St}{H:Hp}{s:iH}{E:ir}
theorem Inv.zO (I:Inv X pins σ H s)(E:ir):Inv (X.zO E) pins σ H s:=⟨I.ok.zO E,I.os,I.bare,I.base,I.loc,I.cell,I.free,I.qk,I.pin,I.hok,I.len⟩
theorem Inv.qw (I:Inv (X.zO E) pins σ H s):Inv X pins σ H s:=⟨I.ok.qw,I.os,I.bare,I.base,I.loc,I.cell,I.free,I.qk,I.pin,I.hok,I.len⟩
theorem SP.qw {D:Ends}{f:Flow}{s':iH}(h:SP (X.zO E) pins D f s'):SP X pins D f s':=by
 cases f with
 | next=>obtain⟨σ',H',I,q⟩:=h;exact⟨σ',H',I.qw,q⟩
 | brk=>obtain⟨σ',H',I,q⟩:=h;exact⟨σ',H',I.qw,q⟩
 | cont=>obtain⟨σ',H',I,q⟩:=h;exact⟨σ',H',I.qw,q⟩
 | ret u=>obtain⟨v,σ',H',I,r,q⟩:=h;exact⟨v,σ',H',I.qw,r,q⟩
theorem PSs.nox {st:List Stmt}{t:TS}(h:PSs X.nox st t):PSs X st t:=λ pins s σ H D I hw =>fh (h pins s σ H D (I.zO _) hw) (λ _ _ q=>q.qw) λ _ _ z=>False.elim z
end
section
variable {X:Cx}{st:Stmt}{rest:List Stmt}{t u:TS}{e:Expr}{te:TE}{pos:Pos}
def Ai:TS:=λ D σ H=>D.nx σ H
def jO (t u:TS):TS:=λ D σ H=>t {D with nx:=u D} σ H
theorem ou:PSs X [] Ai:=λ _ _ σ H _ I h=>gx ⟨σ,H,I,h⟩
theorem iW (h1:PS X st t)(h2:PSs X rest u):PSs X (st::rest) (jO t u):=by
 intro pins s σ H D I h;refine wpAny_execs_cons (thn (h1 pins s σ H {D with nx:=u D} I h) λ f s1 q=>?_);cases f with
 | next =>obtain⟨σ',H',I',q⟩:=q;exact h2 pins s1 σ' H' D I' q
 | ret v=>exact q
 | brk=>exact q
 | cont=>exact q
theorem jw (h1:PS X st t):PSs X [st] t:=by
 intro pins s σ H D I h;refine wpAny_execs_cons (thn (h1 pins s σ H D I h) λ f s1 q=>?_);cases f with
 | next=>exact gx q
 | ret v=>exact q
 | brk=>exact q
 | cont=>exact q
theorem Inv.quiet {pins:iJ}{σ:St}{H:Hp}{s:iH}(I:Inv X pins σ H s):interactive X.env=false:=by simp[interactive,I.ok.kind]
def Aj (te:TE):TS:=λ D σ H=>te σ H λ _ H1=>D.nx σ H1
theorem rK (he:PE X e te)(hs:swapsWith e none pos.line X.env=pure false:=by rfl):PS X (.Expr e pos) (Aj te):=by intro pins s σ H D I h;exact wpAny_Expr_any (thn (he pins s σ H _ I h) λ v s1 ⟨x,H1,I1,r1,q1⟩=>⟨σ,H1,I1,q1⟩) I.quiet hs
def zP (te:TE):TS:=λ D σ H=>te σ H D.rt
theorem lI (he:PE X e te):PS X (.Return (some e) pos) (zP te):=by intro pins s σ H D I h;exact wpAny_Return_some (thn (he pins s σ H _ I h) λ v s1 ⟨x,H1,I1,r1,q1⟩=>⟨x,σ,H1,I1,r1,q1⟩)
def HR (c:TT)(t u:TS):TS:=λ D σ H=>c σ H λ b H1=>if b=true then t D σ H1 else u D σ H1
theorem vW {c:Expr}{a b:List Stmt}{tc:TT}(hc:PT X c tc)(ha:PSs X a t)(hb:PSs X b u):PS X (.If c a b pos) (HR tc t u):=by
 intro pins s σ H D I h;refine wpAny_If (thn (hc pins s σ H _ I h) λ d s1 ⟨H1,I1,q1⟩=>?_);cases d with
 | true=>exact ha pins s1 σ H1 D I1 q1
 | false=>exact hb pins s1 σ H1 D I1 q1
end
abbrev TG:=V->St->Hp->(St->Hp->Prop)->Prop
abbrev TGs:=List V->St->Hp->(St->Hp->Prop)->Prop
def PG (X:Cx)(target:Expr)(t:TG):Prop :=
 ∀ (pins:iJ) (s:iH) (σ:St) (H:Hp) (v:V) (u:iG) (Q:St->Hp->Prop),Inv X pins σ H s->RelV v u->t v σ H Q ->
  wpAny (model X.prog X.w) X.A (assign target X.env u) (λ _ s'=>∃ σ' H',Inv X pins σ' H' s'/\Q σ' H') X.xe s
def PGs (X:Cx)(ts:List Expr)(t:TGs):Prop :=
 ∀ (pins:iJ) (s:iH) (σ:St) (H:Hp) (vs:List V) (us:List iG) (Q:St->Hp->Prop),Inv X pins σ H s->Vals vs us->t vs σ H Q ->
  wpAny (model X.prog X.w) X.A (assignInOrder ((assignEach ts X.env).map (·.2)) us) (λ _ s'=>∃ σ' H',Inv X pins σ' H' s'/\Q σ' H') X.xe s
abbrev Pk:=V->V->V->Hp->(Hp->Prop)->Prop
def RO (X:Cx)(t:Pk):Prop :=
 ∀ (pins:iJ) (s:iH) (σ:St) (H:Hp) (o i v:V) (ov iv u:iG) (Q:Hp->Prop),Inv X pins σ H s->RelV o ov->RelV i iv->RelV v u->t o i v H Q ->
  wpAny (model X.prog X.w) X.A (setItem ov iv u) (λ _ s'=>∃ H',Inv X pins σ H' s'/\Q H') X.xe s
section
variable {X:Cx}{pos:Pos}
def jt (i:Nat):TG:=λ v σ H Q=>Q (σ.set i (some v)) H
theorem Mh {i:Nat}{x:Str}(hN:X.N.Nodup)(hi:X.N[i]?=some x)(hx:Loc X.env.scope x)(hf:X.fn x=true\/X.env.scope.names.lookup x=some .local:=by trivial):PG X (.Name x pos) (jt i):=by intro pins s σ H v u Q I r h;exact wpAny_assign_Name (tM I hN hi hx r (λ s' I'=>⟨_,H,I',h⟩) hf)
def wV:TGs:=λ vs σ H Q=>vs=[]/\Q σ H
def lG (t:TG)(u:TGs):TGs:=λ vs σ H Q=>∃ v r,vs=v::r/\t v σ H λ σ' H'=>u r σ' H' Q
theorem jH:PGs X [] wV:=by intro pins s σ H vs us Q I r h;obtain⟨e,h⟩:=h;subst e;cases r;exact assignInOrder_nil ⟨σ,H,I,h⟩
theorem jc {e:Expr}{es:List Expr}{t:TG}{u:TGs}(h1:PG X e t)(h2:PGs X es u)
  (hs:(assignEach (e::es) X.env).map (·.2)=assign e X.env::(assignEach es X.env).map (·.2):=by rfl):PGs X (e::es) (lG t u):=by
 intro pins s σ H vs us Q I r h;obtain⟨v,vr,e1,h⟩:=h;subst e1;cases r with
 | cons r rr =>rw[hs];refine assignInOrder_cons (thn (h1 pins s σ H _ _ _ I r h) λ _ s1 ⟨σ1,H1,I1,q1⟩=>?_);exact h2 pins s1 σ1 H1 _ _ Q I1 rr q1
def wW (K:iF)(n:Nat)(t:TGs):TG:=λ v σ H Q=>∃ a xs,v=.ref a/\SqT K H a xs/\xs.length=n/\t xs σ H Q
theorem jS {es:List Expr}{k:Nat}{t:TGs}{n:Nat}(hc:X.calm=true)(h:PGs X es t)
  (hn:(assignEach es X.env).length=n:=by rfl) (hst:(assignEach es X.env).findIdx? (·.1)=none:=by rfl):PG X (.Tuple es k pos) (wW X.K n t):=by
 intro pins s σ H v u Q I r hw;obtain⟨a,xs,e1,hq,hl,hw⟩:=hw;subst e1;cases r;obtain⟨its,rv,ht,hz⟩:=I.tuple hq;refine assign_Tuple_tuple (I.ok.hd hc) ht (by simp[hn,<-hl,rv.length]) hst λ h' hx=>?_;have I1:Inv X pins σ H {s with heap:=h'}:=I.kept (t':=s.toks) λ b o e=>hx b o (bw (aE e)) e;exact h pins _ σ H xs _ Q I1 (by simpa using rv) hw
def A4 (to ti:TE)(t:Pk):TG:=λ v σ H Q=>to σ H λ o H1=>ti σ H1 λ i H2=>t o i v H2 λ H3=>Q σ H3
theorem oO {o i:Expr}{to ti:TE}{t:Pk}(ho:PE X o to)(hi:PE X i ti)(hs:RO X t)
  (ha:∀ v,assign (.Subscript o i pos) X.env v=(do
   let ov<-holding [v] (eval o X.env);let iv<-holding [v,ov] (eval i X.env)
   standAt pos
   holding [v,ov,iv] (setItem ov iv v)
   release [v,ov,iv] []):=by intro _;rfl):PG X (.Subscript o i pos) (A4 to ti t):=by
 intro pins s σ H v u Q I r h;rw[ha];refine aa (dF (thn (ho pins s σ H _ I h) λ ov s1 ⟨x,H1,I1,r1,q1⟩=>?_));refine aa (dF (thn (hi pins s1 σ H1 _ I1 q1) λ iv s2 ⟨y,H2,I2,r2,q2⟩=>?_));refine aa (gX (aa (dF (thn (hs pins s2 σ H2 x y v ov iv u _ I2 r1 r2 r q2) λ _ s3 ⟨H3,I3,q3⟩=>?_))));exact wpAny_release ⟨σ,H3,I3,q3⟩
def kP (te:TE)(g:TG):TS:=λ D σ H=>te σ H λ x H1=>g x σ H1 D.nx
theorem m6 {tg e:Expr}{te:TE}{g:TG}(he:PE X e te)(hg:PG X tg g)(hs:swapsWithSole [tg] e pos.line X.env=pure false:=by rfl)(hw:swappedStores [tg] e X.env=pure none:=by rfl)
  (h1:(assignEach [tg] X.env).map (·.2)=[assign tg X.env]:=by rfl):PS X (.Assign [tg] e pos) (kP te g):=by
 intro pins s σ H D I h;refine wpAny_Assign_stores (thn (he pins s σ H _ I h) λ v s1 ⟨x,H1,I1,r1,q1⟩=>?_) hs hw;rw[h1];exact thn (hg pins s1 σ H1 x v _ I1 r1 q1) λ _ s2 q=>q
theorem jC {i:Nat}{x:Str}{e:Expr}{te:TE}{pos':Pos}(hN:X.N.Nodup)(hi:X.N[i]?=some x)(hx:Loc X.env.scope x)(he:PE X e te)(hs:swapsWith e (some (.Name x pos')) pos.line X.env=pure false:=by rfl)(hf:X.fn x=true\/X.env.scope.names.lookup x=some .local:=by trivial) :
  PS X (.Assign [.Name x pos'] e pos) (kP te (jt i)):=by
 intro pins s σ H D I h;refine wpAny_Assign_Name (thn (he pins s σ H _ I h) λ v s1 ⟨y,H1,I1,r1,q1⟩=>?_) hs;exact tM I1 hN hi hx r1 (λ s2 I2=>⟨_,H1,I2,q1⟩) hf
def UH (i j:Nat)(ta:TA):TS:=λ D σ H=>ta σ H λ vs H1=>∃ v w,vs=[v,w]/\D.nx ((σ.set i (some v)).set j (some w)) H1
theorem Pl {i j:Nat}{x y:Str}{a b:Expr}{ta:TA}{px py pt:Pos}{kt k2 pt2}(hc:X.calm=true)(hN:X.N.Nodup)(hi:X.N[i]?=some x)(hj:X.N[j]?=some y)(hij:i≠j)
  (hx:X.env.scope.names.lookup x=some .local) (hy:X.env.scope.names.lookup y=some .local) (ha:PA X [a,b] ta)
  (hw:swappedStores [.Tuple [.Name x px,.Name y py] kt pt] (.Tuple [a,b] k2 pt2) X.env=pure (some [x,y]))
  (hs:swapsWithSole [.Tuple [.Name x px,.Name y py] kt pt] (.Tuple [a,b] k2 pt2) pos.line X.env=pure false:=by rfl) :
  PS X (.Assign [.Tuple [.Name x px,.Name y py] kt pt] (.Tuple [a,b] k2 pt2) pos) (UH i j ta):=by
 intro pins s σ H D I h;rw[exec_Assign_arm];refine aa (gX ?_);rw[hs];refine aa (ao ?_);rw[ah (by decide)];refine aa (Tuple_ (thn (ha _ pins s σ H _ I h) λ us s1 ⟨vs,H1,I1,r1,q1⟩=>?_));obtain⟨v,w,e1,q1⟩:=q1;subst e1;obtain⟨u1,u2,rfl,rv,rw'⟩:∃ u1 u2,us=[u1,u2]/\RelV v u1/\RelV w u2:=by
  cases r1 with
  | cons p q =>
   cases q with
   | cons p' q' =>cases q';exact⟨_,_,rfl,p,p'⟩
 refine cu ?_ (by show 2<=sizeLine;decide);have I2:Inv X pins σ H1 {s1 with heap:=s1.heap.push {cls:=.type "tuple",data:=.seq [u1,u2].toArray}}:=I1.kept (t':=s1.toks) λ b o e=>ai _ e;rw[hw];refine aa (ao ?_);show wpAny (model X.prog X.w) X.A (do rule "assign.swapped-stores";let items<-unpackItems (.ref s1.heap.objs.size) 2 none;assignInOrder [λ v=>bindName X.env y v,λ v=>bindName X.env x v] items.reverse;pure Flow.next) _ _ _;refine aa (wpAny_rule (aa (unpackItems_tuple (items:=#[u1,u2]) (I.ok.hd hc) (IsTup.new s1.heap _) λ h' hx'=>?_)));have I3:=I2.kept (h':=h') (t':=s1.toks) λ b o e=>hx' b o (bw (aE e)) e;show wpAny _ _ (assignInOrder [λ v=>bindName X.env y v,λ v=>bindName X.env x v] [u2,u1]>>=λ _=>pure Flow.next) _ _ _;refine aa (assignInOrder_cons (wpAny_bindName (tM I3 hN hj (.inl hy) rw' (λ s2 I4=>?_) (.inr hy))));refine assignInOrder_cons (wpAny_bindName (tM I4 hN hi (.inl hx) rv (λ s3 I5=>assignInOrder_nil (ao ?_)) (.inr hx)));rw[List.set_comm _ _ (aX hij)]at I5;exact⟨_,H1,I5,q1⟩
end
section
variable {X:Cx}{pos:Pos}
def A5 (c:TT)(tb:TS):TS:=λ D σ H=>∃ W:Nat->St->Hp->Prop,(∃ m,W m σ H)/\∀ m σ H,W m σ H ->
 c σ H λ b H1=>if b=true then ∃ N:St->Hp->Prop,(∀ σ' H',N σ' H'->∃ m',m'<m/\W m' σ' H')/\tb {D with nx:=N,ct:=N,bk:=D.nx} σ H1 else D.nx σ H1
theorem tN {c:Expr}{body:List Stmt}{tc:TT}{tb:TS}(hp:PassesOwn (model X.prog X.w) X.A X.env X.xe)(hc:PT X c tc)(hb:PSs X body tb):PS X (.While c body [] pos) (A5 tc tb):=by
 intro pins s σ H D I h;obtain⟨W,⟨m0,w0⟩,turn⟩:=h;refine wpAny_While (codeAny_whileLoop (λ n s'=>∃ σ' H',Inv X pins σ' H' s'/\W n σ' H') ?_ m0 ⟨σ,H,I,w0⟩);rintro n s1 ⟨σ1,H1,I1,w1⟩;refine ee hp (thn (hc pins s1 σ1 H1 _ I1 (turn n σ1 H1 w1)) λ b s2 ⟨H2,I2,q2⟩=>?_);cases b with
 | true =>
  obtain⟨N,hN,q2⟩:=q2;rw[af rfl];refine ee hp (thn (hb pins s2 σ1 H2 _ I2 q2) λ f s3 q3=>?_);cases f with
  | next =>obtain⟨σ3,H3,I3,n3⟩:=q3;obtain⟨m',hm,w3⟩:=hN σ3 H3 n3;exact⟨m',hm,σ3,H3,I3,w3⟩
  | cont =>obtain⟨σ3,H3,I3,n3⟩:=q3;obtain⟨m',hm,w3⟩:=hN σ3 H3 n3;exact⟨m',hm,σ3,H3,I3,w3⟩
  | brk=>exact q3
  | ret v=>exact q3
 | false =>rw[ah aI];exact gx ⟨σ1,H2,I2,q2⟩
end
structure It where
 go:Nat->Hp->Prop
 yld:Nat->Hp->V->Hp->Prop
 stop:Nat->Hp->Prop
def vc (X:Cx)(pins:iJ)(H:Hp)(b:Addr):Prop :=
 H b=none/\b≠X.env.locals/\b∉X.fs/\(b∈X.ex\/X.s₀.heap.objs.size<=b)/\(∀ x c,X.env.cells.lookup x=some c->c≠b)/\∀ p∈X.pn++pins,p.1≠b
theorem Inv.Jq {X:Cx}{pins:iJ}{σ:St}{H H':Hp}{s:iH}{b:Addr}(I:Inv X pins σ H s)(hb:s.heap.objs.size<=b)(hn:H' b=none):vc X pins H' b:=by
 refine⟨hn,cX (aJ I.lt hb),I.UD hb,.inr (bf I.sz hb),λ x c e z=>?_,λ p hp z=>?_⟩
 ·obtain⟨v,q⟩:=I.cell x c e;exact absurd (aJ q.lt (by rw[z];exact hb)) (bD _)
 ·exact absurd (aJ (aE (I.pin p hp).1) (by rw[z];exact hb)) (bD _)
structure Turn (P:Program)(w:World)(K:iF)(tg:Expr)(J:It)(fp:List Addr)(it:Addr)(tn:Nat->Heap->Prop):Prop where
 mem:it∈fp
 obj:∀ i h,tn i h->∀ b∈fp,∃ o,h.get? b=some o/\∀ v,o.data≠.cell v
 keep:∀ i h h',tn i h->(∀ b∈fp,∀ o,h.get? b=some o->h'.get? b=some o)->tn i h'
 item:∀ (X:Cx),X.prog=P->X.w=w->X.K=K->X.calm=true->∀ (i:Nat) (pins:iJ) (s:iH) (σ:St) (H:Hp) (E:ir),Inv X pins σ H s->(∀ b∈fp,vc X pins H b)->tn i s.heap->J.go i H ->
  wpAny (model P w) X.A (pyNext (.ref it)) (λ r s1=>∃ u,r=some u /\
   wpAny (model P w) X.A (letOwnedTupleGo tg (.ref it) u) (λ _ s2=>∃ x H',Inv X pins σ H' s2/\RelV x u/\J.yld i H x H'/\tn (i+1) s2.heap/\∀ b∈fp,H' b=none) E s1) E s
 done:∀ (X:Cx),X.prog=P->X.w=w->X.K=K->X.calm=true->∀ (i:Nat) (pins:iJ) (s:iH) (σ:St) (H:Hp) (E:ir),Inv X pins σ H s->(∀ b∈fp,vc X pins H b)->tn i s.heap->J.stop i H ->
  wpAny (model P w) X.A (pyNext (.ref it)) (λ r s1=>r=none/\Inv X pins σ H s1) E s
 self:∀ (A:Around) (i:Nat) (s:iH) (Q:ir) (E:ir),tn i s.heap->Q (.ref it) s->wpAny (model P w) A (pyIter (.ref it)) Q E s
abbrev TI:=St->Hp->(It->Hp->Prop)->Prop
def PIE (X:Cx)(pins:iJ)(σ:St)(tg:Expr)(R:It->Hp->Prop)(itv:iG)(s2:iH):Prop :=
 ∃ (it:Addr) (fp:List Addr) (tn:Nat->Heap->Prop) (J:It) (H':Hp),itv=.ref it/\Inv X pins σ H' s2/\Turn X.prog X.w X.K tg J fp it tn/\tn 0 s2.heap/\(∀ b∈fp,vc X pins H' b)/\R J H'
def PI (X:Cx)(tg iter:Expr)(wi:TI):Prop :=
 ∀ (pins:iJ) (s:iH) (σ:St) (H:Hp) (R:It->Hp->Prop),Inv X pins σ H s->wi σ H R ->
  wpAny (model X.prog X.w) X.A (eval iter X.env) (λ v s1=>wpAny (model X.prog X.w) X.A (pyIter v) (PIE X pins σ tg R) X.xe s1) X.xe s
theorem Jr {M : Model}{A : Around}{E : iG -> iH -> Prop}{s : iH}{tg : Expr}{it : Addr}{u : iG}{o : Obj}{n : String}{vs : Array iG}{Q : Unit -> iH -> Prop}(ho : s.heap.get? it = some o)(hc : o.cls = .type n)(hd : o.data = .fields vs)
    (hn : ["enumerate", "zip", "dict_itemiterator", "dict_reverseitemiterator", "odict_iterator", "itertools.zip_longest", "itertools.pairwise"].contains n = false) (hQ : Q () s) : wpAny M A (letOwnedTupleGo tg (.ref it) u) Q E s := by
  unfold letOwnedTupleGo;cases tg <;> first
    | exact ao hQ
    | (cases u <;> first
        | exact ao hQ
        | (refine aa (wpAny_load ho ?_)
           rw[hc, hd];show wpAny M A (if (["enumerate", "zip", "dict_itemiterator", "dict_reverseitemiterator", "odict_iterator", "itertools.zip_longest", "itertools.pairwise"].contains n && vs[0]? == some (rawInt _)) = true then _ else _) Q E s;rw[ah (by intro h; rw[hn, h_]at h; cases h)];exact ao hQ))
def Itl (K:iF)(a:Addr):It :=
 ⟨λ i H=>∃ xs x,SqL K H a xs/\xs[i]?=some x,λ i H x H'=>H'=H/\∀ xs,SqL K H a xs->xs[i]?=some x,λ i H=>∃ xs,SqL K H a xs/\xs.length<=i⟩
def Itt (K:iF)(a:Addr):It :=
 ⟨λ i H=>∃ xs x,SqT K H a xs/\xs[i]?=some x,λ i H x H'=>H'=H/\∀ xs,SqT K H a xs->xs[i]?=some x,λ i H=>∃ xs,SqT K H a xs/\xs.length<=i⟩
def Itr (lo:Int)(n:Nat):It:=⟨λ i _=>i<n,λ i H x H'=>H'=H/\x=.int (lo+i),λ i _=>n<=i⟩
theorem HS {P:Program}{w:World}{K:iF}{tg:Expr}(a it:Addr):Turn P w K tg (Itl K a) [it] it (λ i h=>h.IsListIter it a i) where
 mem:=by simp
 obj:=λ i h st b hb=>by
  have e:b=it:=by simpa using hb
  subst e;obtain⟨o,e,c,d⟩:=st;exact⟨o,e,λ v z=>by rw[d]at z;cases z⟩
 keep:=λ i h h' st k=>st.at λ o e=>k it (by simp) o e
 item:=by intro X hP hw hK hc i pins s σ H E I hf st hg;subst hP hw hK;obtain⟨xs,x,hq,hx⟩:=hg;obtain⟨its,rv,p,hz⟩:=I.list hq;obtain⟨u,hu,ru⟩:=rv.get hx;obtain⟨f0,f1,f2,f3,f4,f5⟩:=hf it (by simp);refine wpAny_pyNext_list_item st p.isList (x:=u) (by simpa using hu) λ h' st' sb=>?_;have I1:Inv X pins σ H {s with heap:=h'}:=I.turned (t':=s.toks) (λ b o hb e=>(sb.2 b hb).trans e) f0 f1 f3 f4 f5;obtain⟨o,e,c,d⟩:=id st';exact⟨u,rfl,Jr (s:={s with heap:=h'}) e c d (by decide) ⟨x,H,I1,ru,⟨rfl,λ ys hy=>by rw[I.CD hy hq];exact hx⟩,st',λ b hb=>(hf b hb).1⟩⟩
 done:=by intro X hP hw hK hc i pins s σ H E I hf st hg;subst hP hw hK;obtain⟨xs,hq,hx⟩:=hg;obtain⟨its,rv,p,hz⟩:=I.list hq;obtain⟨f0,f1,f2,f3,f4,f5⟩:=hf it (by simp);have hl:=rv.length;exact wpAny_pyNext_list_end (I.ok.hd hc) st p.isList (by simp;lia) λ h' eb=>⟨rfl,I.turned (t':=s.toks) (λ b o hb e=>eb b o hb e) f0 f1 f3 f4 f5⟩
 self:=λ _ _ _ _ _ st h=>wpAny_pyIter_listiter st h
theorem EF {P:Program}{w:World}{K:iF}{tg:Expr}(a it:Addr):Turn P w K tg (Itt K a) [it] it (λ i h=>h.IsTupleIter it a i) where
 mem:=by simp
 obj:=λ i h st b hb=>by
  have e:b=it:=by simpa using hb
  subst e;obtain⟨o,e,c,d⟩:=st;exact⟨o,e,λ v z=>by rw[d]at z;cases z⟩
 keep:=λ i h h' st k=>st.at λ o e=>k it (by simp) o e
 item:=by intro X hP hw hK hc i pins s σ H E I hf st hg;subst hP hw hK;obtain⟨xs,x,hq,hx⟩:=hg;obtain⟨its,rv,p,hz⟩:=I.tuple hq;obtain⟨u,hu,ru⟩:=rv.get hx;obtain⟨f0,f1,f2,f3,f4,f5⟩:=hf it (by simp);refine wpAny_pyNext_tuple_item st (show s.heap.IsTuple a its.toArray from p) (x:=u) (by simpa using hu) λ h' st' sb=>?_;have I1:Inv X pins σ H {s with heap:=h'}:=I.turned (t':=s.toks) (λ b o hb e=>(sb.2 b hb).trans e) f0 f1 f3 f4 f5;obtain⟨o,e,c,d⟩:=id st';exact⟨u,rfl,Jr (s:={s with heap:=h'}) e c d (by decide) ⟨x,H,I1,ru,⟨rfl,λ ys hy=>by rw[I.vb hy hq];exact hx⟩,st',λ b hb=>(hf b hb).1⟩⟩
 done:=by intro X hP hw hK hc i pins s σ H E I hf st hg;subst hP hw hK;obtain⟨xs,hq,hx⟩:=hg;obtain⟨its,rv,p,hz⟩:=I.tuple hq;obtain⟨f0,f1,f2,f3,f4,f5⟩:=hf it (by simp);have hl:=rv.length;exact wpAny_pyNext_tuple_end (I.ok.hd hc) st (show s.heap.IsTuple a its.toArray from p) (by simp;lia) λ h' eb=>⟨rfl,I.turned (t':=s.toks) (λ b o hb e=>eb b o hb e) f0 f1 f3 f4 f5⟩
 self:=λ _ _ _ _ _ st h=>wpAny_pyIter_tupleiter st h
theorem EG {P:Program}{w:World}{K:iF}{tg:Expr}(it:Addr)(lo:Int)(n:Nat):Turn P w K tg (Itr lo n) [it] it (λ i h=>IsRangeIter h it (lo+(i:Nat)*1) ((n:Int)-(i:Nat)) 1) where
 mem:=by simp
 obj:=λ i h st b hb=>by
  have e:b=it:=by simpa using hb
  subst e;exact⟨_,st,λ v z=>by have z':Data.fields _=Data.cell v:=z;cases z'⟩
 keep:=λ i h h' st k=>k it (by simp) _ st
 item:=by intro X hP hw hK hc i pins s σ H E I hf st hg;subst hP hw hK;obtain⟨f0,f1,f2,f3,f4,f5⟩:=hf it (by simp);have W:=Walks.range (prog:=X.prog) (w:=X.w) (I.ok.hd hc) it lo 1 n;refine W.item i s _ _ hg st λ v h' tk hv st' kk=>?_;obtain⟨t,rfl⟩:=hv;have I1:Inv X pins σ H {s with heap:=h',toks:=tk}:=I.turned (λ b o hb e=>kk b o (by simpa using hb) e) f0 f1 f3 f4 f5;refine⟨_,rfl,Jr (s:={s with heap:=h',toks:=tk}) (n:="range_iterator") st' rfl rfl (by decide) ⟨.int (lo+i),H,I1,⟨t,?_⟩,⟨rfl,rfl⟩,st',λ b hb=>(hf b hb).1⟩⟩;rw[Int.mul_one]
 done:=by intro X hP hw hK hc i pins s σ H E I hf st hg;subst hP hw hK;obtain⟨f0,f1,f2,f3,f4,f5⟩:=hf it (by simp);exact wpAny_pyNext_range_end (I.ok.hd hc) st (by have:n<=i:=hg;lia) λ h' eb=>⟨rfl,I.turned (t':=s.toks) (λ b o hb e=>eb b o hb e) f0 f1 f3 f4 f5⟩
 self:=λ _ _ _ _ _ st h=>wpAny_pyIter_rangeiter st h
section
variable {X:Cx}{tg:Expr}
def Ga (K:iF)(tl:TE):TI:=λ σ H R=>tl σ H λ x H1=>∃ a,x=.ref a/\(∃ xs,SqL K H1 a xs)/\R (Itl K a) H1
def UI (K:iF)(tl:TE):TI:=λ σ H R=>tl σ H λ x H1=>∃ a,x=.ref a/\(∃ xs,SqT K H1 a xs)/\R (Itt K a) H1
theorem xk {l:Expr}{tl:TE}(hl:PE X l tl):PI X tg l (Ga X.K tl):=by
 intro pins s σ H R I h;refine thn (hl pins s σ H _ I h) λ v s1 ⟨x,H1,I1,r1,q1⟩=>?_;obtain⟨a,e,⟨xs,hq⟩,q⟩:=q1;subst e;cases r1;obtain⟨its,rv,p,hz⟩:=I1.list hq;refine fJ p.isList ?_;refine⟨s1.heap.objs.size,[s1.heap.objs.size],_,_,H1,rfl,I1.kept (t':=s1.toks) λ b o e=>ai _ e,HS a _,⟨_,aS _ rfl,rfl,rfl⟩,λ b hb=>?_,q⟩;have e:b=s1.heap.objs.size:=by simpa using hb
 subst e;exact I1.Jq (ak _) (I1.hok.fresh (ak _))
theorem Js {l:Expr}{tl:TE}(hl:PE X l tl):PI X tg l (UI X.K tl):=by
 intro pins s σ H R I h;refine thn (hl pins s σ H _ I h) λ v s1 ⟨x,H1,I1,r1,q1⟩=>?_;obtain⟨a,e,⟨xs,hq⟩,q⟩:=q1;subst e;cases r1;obtain⟨its,rv,p,hz⟩:=I1.tuple hq;refine wpAny_pyIter_tuple (show s1.heap.IsTuple a its.toArray from p) ?_;refine⟨s1.heap.objs.size,[s1.heap.objs.size],_,_,H1,rfl,I1.kept (t':=s1.toks) λ b o e=>ai _ e,EF a _,⟨_,aS _ rfl,rfl,rfl⟩,λ b hb=>?_,q⟩;have e:b=s1.heap.objs.size:=by simpa using hb
 subst e;exact I1.Jq (ak _) (I1.hok.fresh (ak _))
theorem CF {pins:iJ}{σ:St}{H:Hp}{s:iH}{R:It->Hp->Prop}{E:ir}{lo hi:Int}{t u v:Tok}{tk:Nat}(I:Inv X pins σ H s)(h1:-(2 ^ 62)<=lo)(h2:lo<2 ^ 62)(h3:-(2 ^ 62)<=hi)(h4:hi<2 ^ 62)
  (q:R (Itr lo (hi-lo).toNat) H):wpAny (model X.prog X.w) X.A (pyIter (.ref s.heap.objs.size)) (PIE X pins σ tg R) E {s with heap:=s.heap.push {cls:=.type "range",data:=.fields #[.int lo t,.int hi u,.int 1 v]},toks:=tk}:=by
 refine wpAny_pyIter_range (IsRange.new ..) (small_one h1 h2 h3 h4) ?_;have I1:Inv X pins σ H {s with heap:=s.heap.push {cls:=.type "range",data:=.fields #[.int lo t,.int hi u,.int 1 v]},toks:=tk}:=I.kept λ b o e=>ai _ e;refine⟨(s.heap.push {cls:=.type "range",data:=.fields #[.int lo t,.int hi u,.int 1 v]}).objs.size,[(s.heap.push {cls:=.type "range",data:=.fields #[.int lo t,.int hi u,.int 1 v]}).objs.size],_,_,H,rfl,
  I1.kept (t':=tk) λ b o e=>ai _ e,EG _ lo (hi-lo).toNat,?_,λ b hb=>?_,q⟩
 ·have e1:lo+((0:Nat):Int)*1=lo:=by simp
  have e2:(((hi-lo).toNat:Nat):Int)-((0:Nat):Int)=Builtin.Range.rangeSize lo hi 1:=by rw[rangeSize_one];split<;>lia
  show IsRangeIter _ _ (lo+((0:Nat):Int)*1) ((((hi-lo).toNat:Nat):Int)-((0:Nat):Int)) 1;rw[e1,e2];exact aS _ rfl
 ·have e:b=(s.heap.push {cls:=.type "range",data:=.fields #[.int lo t,.int hi u,.int 1 v]}).objs.size:=by simpa using hb
  subst e;exact I1.Jq (ak _) (I1.hok.fresh (ak _))
def vX (ta:TA):TI:=λ σ H R=>ta σ H λ vs H1=>∃ j:Int,vs=[.int j]/\-(2 ^ 62)<=j/\j<2 ^ 62/\R (Itr 0 j.toNat) H1
def Ob (ta:TA):TI:=λ σ H R=>ta σ H λ vs H1=>∃ i j:Int,vs=[.int i,.int j]/\(-(2 ^ 62)<=i/\i<2 ^ 62/\-(2 ^ 62)<=j/\j<2 ^ 62)/\R (Itr i (j-i).toNat) H1
theorem lu {a:Expr}{ta:TA}{p pos:Pos}(hg:Gl X "range")(hm:X.mg "range"=none)(ha:PA X [a] ta)(hs:starEach [a] X.env=[(false,eval a X.env)]:=by rfl):PI X tg (.Call (.Name "range" p) [a] [] pos) (vX ta):=by
 intro pins s σ H R I h;refine Call_ (sH I hg hm boot_range (cU (thn (ha pos pins s σ H _ I h) λ us s1 ⟨vs,H1,I1,r1,q1⟩=>?_) hs rfl));obtain⟨j,e,q1,q2,q⟩:=q1;subst e;cases r1 with
 | cons r rr =>cases rr;obtain⟨t,rfl⟩:=r;exact call_range_1 (CF I1 (by lia) (by lia) q1 q2 (by simpa using q))
theorem HU {a b:Expr}{ta:TA}{p pos:Pos}(hg:Gl X "range")(hm:X.mg "range"=none)(ha:PA X [a,b] ta)(hs:starEach [a,b] X.env=[(false,eval a X.env),(false,eval b X.env)]:=by rfl)(hs2:starEach [b] X.env=[(false,eval b X.env)]:=by rfl) :
  PI X tg (.Call (.Name "range" p) [a,b] [] pos) (Ob ta):=by
 intro pins s σ H R I h;refine Call_ (sH I hg hm boot_range (cU (thn (ha pos pins s σ H _ I h) λ us s1 ⟨vs,H1,I1,r1,q1⟩=>?_) (by rw[hs,hs2]) (by rw[hs2];rfl)));obtain⟨i,j,e,⟨q1,q2,q3,q4⟩,q⟩:=q1;subst e;cases r1 with
 | cons r rr =>
  cases rr with
  | cons r' rr =>cases rr;obtain⟨t,rfl⟩:=r;obtain⟨t',rfl⟩:=r';exact call_range_2 (CF I1 q1 q2 q3 q4 q)
def wX (wi:TI)(g:TG)(tb:TS):TS:=λ D σ H=>wi σ H λ J H1=>∃ W:Nat->Nat->St->Hp->Prop,(∃ m,W 0 m σ H1)/\∀ i m σ H,W i m σ H ->
 (J.stop i H/\D.nx σ H)\/(J.go i H/\∃ N:St->Hp->Prop,(∀ σ' H',N σ' H'->∃ m',m'<m/\W (i+1) m' σ' H')/\∀ x H',J.yld i H x H'->g x σ H' λ σ2 H2=>tb {D with nx:=N,ct:=N,bk:=D.nx} σ2 H2)
def vd (fp:List Addr)(h:Heap):iJ:=fp.filterMap λ b=>(h.get? b).map λ o=>(b,o)
theorem pH {fp:List Addr}{h:Heap}{b:Addr}{o:Obj}(hb:b∈fp)(e:h.get? b=some o):(b,o)∈vd fp h:=eU.mpr ⟨b,hb,by rw[e];rfl⟩
theorem HV {fp:List Addr}{h:Heap}{p:Addr×Obj}(hp:p∈vd fp h):p.1∈fp/\h.get? p.1=some p.2:=by
 obtain⟨b,hb,e⟩:=eU.mp hp;cases q:h.get? b with
 | none=>rw[q]at e;cases e
 | some o =>rw[q]at e;have e':(b,o)=p:=aF e;subst e';exact⟨hb,q⟩
theorem Inv.pinned {pins:iJ}{σ:St}{H:Hp}{s:iH}{fp:List Addr}(I:Inv X pins σ H s)(hf:∀ b∈fp,vc X pins H b)(ho:∀ b∈fp,∃ o,s.heap.get? b=some o/\∀ v,o.data≠.cell v):Inv X (pins++vd fp s.heap) σ H s :=
 I.xj λ p hp=>(bG.mp hp).elim (λ z=>I.pin p (a9 _ z)) λ z=>by obtain⟨hb,e⟩:=HV z;obtain⟨f0,f1,f2,_⟩:=hf p.1 hb;obtain⟨o,e',d⟩:=ho p.1 hb;rw[e]at e';cases e';exact⟨e,f0,f1,f2,d⟩
theorem Inv.xK {pins pl:iJ}{σ:St}{H:Hp}{s:iH}(I:Inv X (pins++pl) σ H s):Inv X pins σ H s:=I.xj λ p hp=>I.pin p (a9 _ (bL _ hp))
theorem mI {iter:Expr}{body:List Stmt}{wi:TI}{g:TG}{tb:TS}{pos:Pos}(hp:PassesOwn (model X.prog X.w) X.A X.env X.xe)(hc:X.calm=true)(hi:PI X tg iter wi)(hg:PG X tg g)(hb:PSs X body tb)
  (hs:∀ x,foldedSetIterable iter X.env x=pure x:=by intro _;rfl):PS X (.For tg iter body [] pos) (wX wi g tb):=by
 intro pins s σ H D I h;refine wpAny_For (thn (hi pins s σ H _ I h) λ v s1 h1=>thn h1 λ itv s2 h2=>?_) hs;obtain⟨it,fp,tn,J,H2,e,I2,T,st2,f2,W,⟨m0,w0⟩,turn⟩:=h2;subst e;have stat:∀ {H':Hp},(∀ b∈fp,H' b=none)->∀ b∈fp,vc X pins H' b:=λ hn b hb=>⟨hn b hb,(f2 b hb).2⟩;refine codeAny_forLoop_any (λ n s'=>∃ i σ' H',Inv X pins σ' H' s'/\tn i s'.heap/\(∀ b∈fp,H' b=none)/\W i n σ' H') ?_ m0 ⟨0,σ,H2,I2,st2,λ b hb=>(f2 b hb).1,w0⟩;rintro n s3 ⟨i,σ3,H3,I3,st3,fr3,w3⟩;rcases turn i n σ3 H3 w3 with⟨stop,qn⟩ | ⟨go,N,hN,step⟩
 ·refine ee hp (thn (T.done X rfl rfl rfl hc i pins s3 σ3 H3 X.xe I3 (stat fr3) st3 stop) λ r s4 ⟨hr,I4⟩=>?_);subst hr;exact gx ⟨σ3,H3,I4,qn⟩
 ·refine ee hp (thn (T.item X rfl rfl rfl hc i pins s3 σ3 H3 X.xe I3 (stat fr3) st3 go) λ r s4 ⟨u,hr,h4⟩=>?_)
  subst hr;refine ee hp (thn h4 λ _ s5 ⟨x,H5,I5,r5,y5,st5,fr5⟩=>?_);have I5':=I5.pinned (stat fr5) (T.obj _ _ st5);refine ee hp (thn (hg _ s5 σ3 H5 x u _ I5' r5 (step x H5 y5)) λ _ s6 ⟨σ6,H6,I6,q6⟩=>?_);refine ee hp (thn (hb _ s6 σ6 H6 _ I6 q6) λ f s7 q7=>?_);have again:∀ {σ7:St} {H7:Hp},Inv X (pins++vd fp s5.heap) σ7 H7 s7->N σ7 H7->∃ m,m<n/\∃ i σ' H',Inv X pins σ' H' s7/\tn i s7.heap/\(∀ b∈fp,H' b=none)/\W i m σ' H':=λ{σ7 H7} I7 n7=>by obtain⟨m',hm,w7⟩:=hN σ7 H7 n7;refine⟨m',hm,i+1,σ7,H7,I7.xK,T.keep _ _ _ st5 λ b hb o e=>(I7.pin (b,o) (a9 _ (a9 _ (pH hb e)))).1,λ b hb=>?_,w7⟩;obtain⟨o,e,d⟩:=T.obj _ _ st5 b hb;exact(I7.pin (b,o) (a9 _ (a9 _ (pH hb e)))).2.1
  cases f with
  | next=>obtain⟨σ7,H7,I7,n7⟩:=q7;exact again I7 n7
  | cont=>obtain⟨σ7,H7,I7,n7⟩:=q7;exact again I7 n7
  | brk=>obtain⟨σ7,H7,I7,q7⟩:=q7;exact⟨σ7,H7,I7.xK,q7⟩
  | ret v=>obtain⟨x7,σ7,H7,I7,r7,q7⟩:=q7;exact⟨x7,σ7,H7,I7.xK,r7,q7⟩
end
theorem CG {K:iF}{a:Addr}{xs:List V}{g:TG}{tb:TS}{D:Ends}{σ:St}{H:Hp}(Pv:Nat->St->Hp->Prop)(h0:Pv 0 σ H)(hl:∀ i σ H,i<=xs.length->Pv i σ H->SqL K H a xs)
  (hs:∀ i x σ H,xs[i]?=some x->Pv i σ H->g x σ H λ σ2 H2=>tb {D with nx:=Pv (i+1),ct:=Pv (i+1),bk:=D.nx} σ2 H2) (hd:∀ σ H,Pv xs.length σ H->D.nx σ H) :
  ∃ W:Nat->Nat->St->Hp->Prop,(∃ m,W 0 m σ H)/\∀ i m σ H,W i m σ H ->
   ((Itl K a).stop i H/\D.nx σ H)\/((Itl K a).go i H/\∃ N:St->Hp->Prop,(∀ σ' H',N σ' H'->∃ m',m'<m/\W (i+1) m' σ' H')/\∀ x H',(Itl K a).yld i H x H'->g x σ H' λ σ2 H2=>tb {D with nx:=N,ct:=N,bk:=D.nx} σ2 H2):=by
 refine⟨λ i m σ H=>m=xs.length-i/\i<=xs.length/\Pv i σ H,⟨xs.length,by simp,bg _,h0⟩,?_⟩;rintro i m σ H ⟨rfl,hi,p⟩;have q:=hl i σ H hi p;by_cases hlt:i<xs.length
 ·refine .inr ⟨⟨xs,xs[i],q,by simp[hlt]⟩,Pv (i+1),λ σ' H' p'=>⟨xs.length-(i+1),by lia,rfl,hlt,p'⟩,λ x H' y=>?_⟩;obtain⟨e,y⟩:=y;subst e;exact hs i x σ _ (y xs q) p
 ·have e:i=xs.length:=by lia
  subst e;exact .inl ⟨⟨xs,q,ak _⟩,hd σ H p⟩
theorem mJ {lo:Int}{n:Nat}{g:TG}{tb:TS}{D:Ends}{σ:St}{H:Hp}(Pv:Nat->St->Hp->Prop)(h0:Pv 0 σ H)
  (hs:∀ i σ H,i<n->Pv i σ H->g (.int (lo+i)) σ H λ σ2 H2=>tb {D with nx:=Pv (i+1),ct:=Pv (i+1),bk:=D.nx} σ2 H2) (hd:∀ σ H,Pv n σ H->D.nx σ H) :
  ∃ W:Nat->Nat->St->Hp->Prop,(∃ m,W 0 m σ H)/\∀ i m σ H,W i m σ H ->
   ((Itr lo n).stop i H/\D.nx σ H)\/((Itr lo n).go i H/\∃ N:St->Hp->Prop,(∀ σ' H',N σ' H'->∃ m',m'<m/\W (i+1) m' σ' H')/\∀ x H',(Itr lo n).yld i H x H'->g x σ H' λ σ2 H2=>tb {D with nx:=N,ct:=N,bk:=D.nx} σ2 H2):=by
 refine⟨λ i m σ H=>m=n-i/\i<=n/\Pv i σ H,⟨n,by simp,bg _,h0⟩,?_⟩;rintro i m σ H ⟨rfl,hi,p⟩;by_cases hlt:i<n
 ·refine .inr ⟨hlt,Pv (i+1),λ σ' H' p'=>⟨n-(i+1),by lia,rfl,hlt,p'⟩,λ x H' y=>?_⟩;obtain⟨e,y⟩:=y;subst e y;exact hs i σ _ hlt p
 ·have e:i=n:=by lia
  subst e;exact .inl ⟨ak _,hd σ H p⟩
theorem CH {c:TT}{tb:TS}{D:Ends}{σ:St}{H:Hp}(Pv:St->Hp->Prop)(μ:St->Hp->Nat)(h0:Pv σ H)
  (hs:∀ σ H,Pv σ H->c σ H λ b H1=>if b=true then tb {D with nx:=λ σ' H'=>Pv σ' H'/\μ σ' H'<μ σ H,ct:=λ σ' H'=>Pv σ' H'/\μ σ' H'<μ σ H,bk:=D.nx} σ H1 else D.nx σ H1)
  (mono:∀ σ H Q Q',(∀ b H1,Q b H1->Q' b H1)->c σ H Q->c σ H Q'):A5 c tb D σ H:=by
 refine⟨λ m σ H=>m=μ σ H/\Pv σ H,⟨_,rfl,h0⟩,?_⟩;rintro m σ H ⟨rfl,p⟩;refine mono σ H _ _ (λ b H1 q=>?_) (hs σ H p);cases b with
 | true=>exact⟨_,λ σ' H' ⟨p',l⟩=>⟨_,l,rfl,p'⟩,q⟩
 | false=>exact q
abbrev R2:=V->V->Hp->VK->Prop
def OpR (X:Cx)(f:iG->iG->Sem iG)(r:R2):Prop :=
 ∀ (pins:iJ) (s:iH) (σ:St) (H:Hp) (x y:V) (v u:iG) (Q:VK),Inv X pins σ H s->RelV x v->RelV y u->r x y H Q ->
  wpAny (model X.prog X.w) X.A (f v u) (EP X pins σ Q) X.xe s
def UnR (X:Cx)(f:iG->Sem iG)(r:V->Hp->VK->Prop):Prop :=
 ∀ (pins:iJ) (s:iH) (σ:St) (H:Hp) (x:V) (v:iG) (Q:VK),Inv X pins σ H s->RelV x v->r x H Q ->
  wpAny (model X.prog X.w) X.A (f v) (EP X pins σ Q) X.xe s
def kz (X:Cx)(f:iG)(r:List V->Hp->VK->Prop):Prop :=
 ∀ (pins:iJ) (s:iH) (σ:St) (H:Hp) (xs:List V) (us:List iG) (Q:VK),Inv X pins σ H s->Vals xs us->r xs H Q ->
  wpAny (model X.prog X.w) X.A (call f us) (EP X pins σ Q) X.xe s
def UJ (X:Cx)(r:V->Hp->(Bool->Hp->Prop)->Prop):Prop :=
 ∀ (pins:iJ) (s:iH) (σ:St) (H:Hp) (x:V) (v:iG) (Q:Bool->Hp->Prop),Inv X pins σ H s->RelV x v->r x H Q ->
  wpAny (model X.prog X.w) X.A (truthy v) (TP X pins σ Q) X.xe s
def tOp (r:R2)(ta tb:TE):TE:=λ σ H Q=>ta σ H λ x H1=>tb σ H1 λ y H2=>r x y H2 Q
def tUn (r:V->Hp->VK->Prop)(ta:TE):TE:=λ σ H Q=>ta σ H λ x H1=>r x H1 Q
def rI (C:Int->Int->Prop)(g:Int->Int->V):R2:=λ x y H Q=>∃ i j,x=.int i/\y=.int j/\C i j/\Q (g i j) H
def rI0 (g:Int->Int->V):R2:=λ x y H Q=>∃ i j,x=.int i/\y=.int j/\Q (g i j) H
def rU (g:Int->V):V->Hp->VK->Prop:=λ x H Q=>∃ i,x=.int i/\Q (g i) H
section
variable {X:Cx}{a b c:Expr}{ta tb tc:TE}{pos:Pos}
theorem Pn (ha:PE X a ta)(hb:PE X b tb){pins:iJ}{s:iH}{σ:St}{H:Hp}{R:V->V->Hp->Prop}(I:Inv X pins σ H s)
  (h:ta σ H λ x H1=>tb σ H1 λ y H2=>R x y H2) {Q:ir} {f:iG->iG->Sem iG}
  (hf:∀ v u s2 x y H2,Inv X pins σ H2 s2->RelV x v->RelV y u->R x y H2->wpAny (model X.prog X.w) X.A (f v u) Q X.xe s2) :
  wpAny (model X.prog X.w) X.A (eval a X.env) (λ v s₁=>wpAny (model X.prog X.w) X.A (eval b X.env) (λ u s₂=>wpAny (model X.prog X.w) X.A (f v u) Q X.xe s₂) X.xe s₁) X.xe s:=by
 refine thn (ha pins s σ H _ I h) λ v s1 ⟨x,H1,I1,r1,q1⟩=>?_;refine thn (hb pins s1 σ H1 _ I1 q1) λ u s2 ⟨y,H2,I2,r2,q2⟩=>?_;exact hf v u s2 x y H2 I2 r1 r2 q2
theorem jP {op:Operator}{r:R2}(ho:OpR X (binaryOp op) r)(ha:PE X a ta)(hb:PE X b tb):PE X (.BinOp a op b pos) (tOp r ta tb):=by intro pins s σ H Q I h;exact wpAny_BinOp (Pn ha hb I h λ v u s2 x y H2 I2 rx ry q=>ho pins s2 σ H2 x y v u Q I2 rx ry q)
theorem RP {op:UnaryOp}{r:V->Hp->VK->Prop}(ho:UnR X (unaryOp op) r)(ha:PE X a ta):PE X (.UnaryOp op a pos) (tUn r ta):=by intro pins s σ H Q I h;exact UnaryOp_ (thn (ha pins s σ H _ I h) λ v s1 ⟨x,H1,I1,r1,q1⟩=>ho pins s1 σ H1 x v Q I1 r1 q1)
theorem opI {f:iG->iG->Sem iG}{C:Int->Int->Prop}{g:Int->Int->Int}
  (rule:∀ (i j:Int) (t u:Tok) (s:iH) (Q:ir) (E:ir),C i j->Q (.int (g i j) s.toks) {s with toks:=s.toks+1}->wpAny (model X.prog X.w) X.A (f (.int i t) (.int j u)) Q E s) :
  OpR X f (rI C λ i j=>.int (g i j)):=by
 intro pins s σ H x y v u Q I rx ry h;obtain⟨i,j,rfl,rfl,hc,q⟩:=h;obtain⟨t,rfl⟩:=rx;obtain⟨t',rfl⟩:=ry;exact rule i j t t' s _ _ hc ⟨.int (g i j),H,I.tok _,⟨_,rfl⟩,q⟩
theorem RQ {f:iG->iG->Sem iG}{g:Int->Int->Int}
  (rule:∀ (i j:Int) (t u:Tok) (s:iH) (Q:ir) (E:ir),Q (.int (g i j) s.toks) {s with toks:=s.toks+1}->wpAny (model X.prog X.w) X.A (f (.int i t) (.int j u)) Q E s) :
  OpR X f (rI0 λ i j=>.int (g i j)):=by
 intro pins s σ H x y v u Q I rx ry h;obtain⟨i,j,rfl,rfl,q⟩:=h;obtain⟨t,rfl⟩:=rx;obtain⟨t',rfl⟩:=ry;exact rule i j t t' s _ _ ⟨.int (g i j),H,I.tok _,⟨_,rfl⟩,q⟩
theorem Po {f:iG->iG->Sem iG}{g:Int->Int->Bool}
  (rule:∀ (i j:Int) (t u:Tok) (s:iH) (Q:ir) (E:ir),Q (.bool (g i j)) s->wpAny (model X.prog X.w) X.A (f (.int i t) (.int j u)) Q E s) :
  OpR X f (rI0 λ i j=>.bl (g i j)):=by
 intro pins s σ H x y v u Q I rx ry h;obtain⟨i,j,rfl,rfl,q⟩:=h;obtain⟨t,rfl⟩:=rx;obtain⟨t',rfl⟩:=ry;exact rule i j t t' s _ _ ⟨.bl (g i j),H,I,rfl,q⟩
def UK (i j:Int):Prop:=0<j/\j<1073741824
def UL (i j:Int):Prop:=0<=j/\j<=1000000/\i.natAbs<2 ^ 64
def Mi (i j:Int):Prop:=(-(2 ^ 64)<i/\i<2 ^ 64)\/(-(2 ^ 64)<j/\j<2 ^ 64)
theorem Mi.ok {i j:Int}(h:Mi i j):IntMulOk i j:=by
 rcases h with⟨h1,h2⟩ | ⟨h1,h2⟩
 ·exact .of_left (intBits_le_64 h1 h2)
 ·exact .of_right (intBits_le_64 h1 h2)
theorem m7:OpR X (binaryOp .Add) (rI0 λ i j=>.int (i+j)):=RQ λ _ _ _ _ _ _ _ q=>add_int q
theorem ve:OpR X (binaryOp .Sub) (rI0 λ i j=>.int (i-j)):=RQ λ _ _ _ _ _ _ _ q=>sub_int q
theorem sI:OpR X (binaryOp .Mult) (rI Mi λ i j=>.int (i*j)):=opI λ _ _ _ _ _ _ _ hc q=>mul_int q hc.ok
theorem Mj:OpR X (binaryOp .FloorDiv) (rI UK λ i j=>.int (i / j)):=opI λ i j _ _ _ _ _ hc q=>by have h1:(0:Int)<j:=hc.1;have h2:j<1073741824:=hc.2;exact floordiv_int (by lia) (by rw[gJ i (by lia)];exact q) (.inl (PyProof.noPylong_small (by lia)))
theorem vf:OpR X (binaryOp .Mod) (rI (λ _ j=>0<j) λ i j=>.int (i % j)):=opI λ i j _ _ _ _ _ hc q=>by have h1:(0:Int)<j:=hc;exact mod_int' (by lia) (by rw[Int.fmod_eq_emod_of_nonneg i (by lia)];exact q)
theorem vg:OpR X (binaryOp .Pow) (rI UL λ i j=>.int (i ^ j.toNat)):=opI λ _ _ _ _ _ _ _ hc q=>pow_int_small hc.1 hc.2.1 hc.2.2 q
theorem unI {f:iG->Sem iG}{g:Int->Int}
  (rule:∀ (i:Int) (t:Tok) (s:iH) (Q:ir) (E:ir),Q (.int (g i) s.toks) {s with toks:=s.toks+1}->wpAny (model X.prog X.w) X.A (f (.int i t)) Q E s) :
  UnR X f (rU λ i=>.int (g i)):=by
 intro pins s σ H x v Q I rx h;obtain⟨i,rfl,q⟩:=h;obtain⟨t,rfl⟩:=rx;exact rule i t s _ _ ⟨.int (g i),H,I.tok _,⟨_,rfl⟩,q⟩
theorem Pp:UnR X (unaryOp .USub) (rU λ i=>.int (-i)):=unI λ _ _ _ _ _ q=>neg_int q
end
def Pq:V->V->Bool
 | .non,.non=>true | .non,.int _=>true | .int _,.non=>true | .non,.bl _=>true | .bl _,.non=>true | .non,.str _=>true | .str _,.non=>true
 | .int _,.int _=>true | .bl _,.bl _=>true | .str _,.str _=>true | .byt _,.byt _=>true
 | .int _,.str _=>true | .str _,.int _=>true | .bl _,.str _=>true | .str _,.bl _=>true
 | _,_=>false
def rEq:R2:=λ x y H Q=>Pq x y=true/\Q (.bl (decide (x=y))) H
def rNe:R2:=λ x y H Q=>Pq x y=true/\Q (.bl (!decide (x=y))) H
theorem A6 {i j:Int}:decide (V.int i=V.int j)=(i==j):=by rw[bH];simp
theorem EI {i j:Bool}:decide (V.bl i=V.bl j)=(i==j):=by rw[bH];simp
theorem A7 {i j:Str}:decide (V.str i=V.str j)=(i==j):=by rw[bH];simp
theorem Gb {i j:Array UInt8}:decide (V.byt i=V.byt j)=(i.toList==j.toList):=by rw[bH];cases i;cases j;simp
section
variable {X:Cx}{a b c:Expr}{ta tb tc:TE}{pos:Pos}
theorem jM {pins:iJ}{σ:St}{H:Hp}{s:iH}{Q:VK}{k k':Bool}(I:Inv X pins σ H s)(q:Q (.bl k) H)(e:k=k'):EP X pins σ Q (.bool k') s:=by subst e;exact⟨.bl k,H,I,rfl,q⟩
theorem Oc:OpR X (compareOp .Eq) rEq:=by
 intro pins s σ H x y v u Q I rx ry h;obtain⟨hs,q⟩:=h;cases x with
 | non =>
  cases rx;cases y with
  | non=>cases ry;exact PySem.EqNone.eq_none_none (jM I q (by simp))
  | bl j=>cases ry;exact PySem.EqNone.eq_none_bool (jM I q (by simp))
  | int j=>obtain⟨t',rfl⟩:=ry;exact PySem.EqNone.eq_none_int (jM I q (by simp))
  | str j=>obtain⟨t',rfl⟩:=ry;exact PySem.EqNone.eq_none_str (jM I q (by simp))
  | _=>exact absurd (show false=true from hs) aI
 | bl i =>
  cases rx;cases y with
  | non=>cases ry;exact PySem.EqNone.eq_bool_none (jM I q (by simp))
  | bl j=>cases ry;exact eq_bool (jM I q EI)
  | str j=>obtain⟨t',rfl⟩:=ry;exact PySem.EqMixed.eq_bool_str (jM I q (by simp))
  | _=>exact absurd (show false=true from hs) aI
 | int i =>
  obtain⟨t,rfl⟩:=rx;cases y with
  | non=>cases ry;exact PySem.EqNone.eq_int_none (jM I q (by simp))
  | int j=>obtain⟨t',rfl⟩:=ry;exact eq_int (jM I q A6)
  | str j=>obtain⟨t',rfl⟩:=ry;exact PySem.EqMixed.eq_int_str (jM I q (by simp))
  | _=>exact absurd (show false=true from hs) aI
 | str i =>
  obtain⟨t,rfl⟩:=rx;cases y with
  | non=>cases ry;exact PySem.EqNone.eq_str_none (jM I q (by simp))
  | bl j=>cases ry;exact PySem.EqMixed.eq_str_bool (jM I q (by simp))
  | int j=>obtain⟨t',rfl⟩:=ry;exact PySem.EqMixed.eq_str_int (jM I q (by simp))
  | str j=>obtain⟨t',rfl⟩:=ry;exact eq_str (jM I q A7)
  | _=>exact absurd (show false=true from hs) aI
 | byt i =>
  obtain⟨t,rfl⟩:=rx;cases y with
  | byt j=>obtain⟨t',rfl⟩:=ry;exact PySem.W.eq_bytes (jM I q Gb)
  | _=>exact absurd (show false=true from hs) aI
 | _=>cases y<;>exact absurd (show false=true from hs) aI
theorem Od:OpR X (compareOp .NotEq) rNe:=by
 intro pins s σ H x y v u Q I rx ry h;obtain⟨hs,q⟩:=h;cases x with
 | non =>
  cases rx;cases y with
  | non=>cases ry;exact PySem.EqNone.ne_none_none (jM I q (by simp))
  | bl j=>cases ry;exact PySem.EqNone.ne_none_bool (jM I q (by simp))
  | int j=>obtain⟨t',rfl⟩:=ry;exact PySem.EqNone.ne_none_int (jM I q (by simp))
  | str j=>obtain⟨t',rfl⟩:=ry;exact PySem.EqNone.ne_none_str (jM I q (by simp))
  | _=>exact absurd (show false=true from hs) aI
 | bl i =>
  cases rx;cases y with
  | non=>cases ry;exact PySem.EqNone.ne_bool_none (jM I q (by simp))
  | bl j=>cases ry;exact ne_bool (jM I q (cK not EI))
  | str j=>obtain⟨t',rfl⟩:=ry;exact PySem.EqMixed.ne_bool_str (jM I q (by simp))
  | _=>exact absurd (show false=true from hs) aI
 | int i =>
  obtain⟨t,rfl⟩:=rx;cases y with
  | non=>cases ry;exact PySem.EqNone.ne_int_none (jM I q (by simp))
  | int j=>obtain⟨t',rfl⟩:=ry;exact ne_int (jM I q (cK not A6))
  | str j=>obtain⟨t',rfl⟩:=ry;exact PySem.EqMixed.ne_int_str (jM I q (by simp))
  | _=>exact absurd (show false=true from hs) aI
 | str i =>
  obtain⟨t,rfl⟩:=rx;cases y with
  | non=>cases ry;exact PySem.EqNone.ne_str_none (jM I q (by simp))
  | bl j=>cases ry;exact PySem.EqMixed.ne_str_bool (jM I q (by simp))
  | int j=>obtain⟨t',rfl⟩:=ry;exact PySem.EqMixed.ne_str_int (jM I q (by simp))
  | str j=>obtain⟨t',rfl⟩:=ry;exact ne_str (jM I q (cK not A7))
  | _=>exact absurd (show false=true from hs) aI
 | byt i =>
  obtain⟨t,rfl⟩:=rx;cases y with
  | byt j=>obtain⟨t',rfl⟩:=ry;exact PySem.W.ne_bytes (jM I q (cK not Gb))
  | _=>exact absurd (show false=true from hs) aI
 | _=>cases y<;>exact absurd (show false=true from hs) aI
theorem Oe:OpR X (compareOp .Lt) (rI0 λ i j=>.bl (decide (i<j))):=Po λ _ _ _ _ _ _ _ q=>lt_int q
theorem RS:OpR X (compareOp .LtE) (rI0 λ i j=>.bl (decide (i<=j))):=Po λ _ _ _ _ _ _ _ q=>le_int q
theorem Oh:OpR X (compareOp .GtE) (rI0 λ i j=>.bl (decide (j<=i))):=Po λ _ _ _ _ _ _ _ q=>ge_int q
theorem Pr:OpR X (compareOp .Is) (λ x y H Q=>y=.non/\Q (.bl (decide (x=.non))) H):=by
 intro pins s σ H x y v u Q I rx ry h;obtain⟨rfl,q⟩:=h;cases ry;refine is_none_gen (jM I q ?_);cases x<;>first
  | (cases rx;rfl)
  | (obtain⟨t,rfl⟩:=rx;rfl)
theorem xM (b:Expr){op:CmpOp}(h:op≠.In:=by decide)(h2:op≠.NotIn:=by decide):behindInMarks op b=false:=by
 have e1:(op==CmpOp.In)=false:=by cases op<;>first | rfl | exact absurd rfl h
 have e2:(op==CmpOp.NotIn)=false:=by cases op<;>first | rfl | exact absurd rfl h2
 cases b<;>simp[behindInMarks,e1,e2]
theorem Ml {op:CmpOp}{r:R2}(ho:OpR X (compareOp op) r)(ha:PE X a ta)(hb:PE X b tb)(hm:behindInMarks op b=false):PE X (.Compare a [op] [b] pos) (tOp r ta tb):=by intro pins s σ H Q I h;exact wpAny_Compare1 (Pn ha hb I h λ v u s2 x y H2 I2 rx ry q=>ho pins s2 σ H2 x y v u Q I2 rx ry q) hm
def Jt (t:TE):TT:=λ σ H Q=>t σ H λ x H'=>∃ k,x=.bl k/\Q k H'
theorem xl {op:CmpOp}{r:R2}(ho:OpR X (compareOp op) r)(ha:PE X a ta)(hb:PE X b tb)(hm:behindInMarks op b=false):PT X (.Compare a [op] [b] pos) (Jt (tOp r ta tb)):=by
 intro pins s σ H Q I h;refine wpAny_isTrue_Compare1 (thn (ha pins s σ H _ I h) λ v s1 ⟨x,H1,I1,r1,q1⟩=>thn (hb pins s1 σ H1 _ I1 q1) λ u s2 ⟨y,H2,I2,r2,q2⟩ =>thn (ho pins s2 σ H2 x y v u _ I2 r1 r2 q2) λ c s3 ⟨z,H3,I3,r3,k,e,q3⟩=>?_) hm
 subst e;cases r3;exact cx ⟨H3,I3,q3⟩
def EJ (r r':R2)(ta tb tc:TE):TE:=λ σ H Q=>ta σ H λ x H1=>tb σ H1 λ y H2=>r x y H2 λ z H3=>∃ k,z=.bl k /\
 (if k=true then tc σ H3 λ w' H4=>r' y w' H4 Q else Q (.bl false) H3)
theorem Ju {op op':CmpOp}{r r':R2}(ho:OpR X (compareOp op) r)(ho':OpR X (compareOp op') r')(ha:PE X a ta)(hb:PE X b tb)(hc:PE X c tc)
  (hm:lastMarks [op,op'] [b,c]=false:=by with_unfolding_all rfl):PE X (.Compare a [op,op'] [b,c] pos) (EJ r r' ta tb tc):=by
 intro pins s σ H Q I h;refine Compare_chain (thn (ha pins s σ H _ I h) λ v s1 ⟨x,H1,I1,r1,q1⟩=>chain_link (thn (hb pins s1 σ H1 _ I1 q1) λ u s2 ⟨y,H2,I2,r2,q2⟩ =>thn (ho pins s2 σ H2 x y v u _ I2 r1 r2 q2) λ d s3 ⟨z,H3,I3,r3,k,e,q3⟩=>?_)) hm
 subst e;cases r3;refine cx ?_;cases k with
 | false=>exact ite_ff ⟨.bl false,H3,I3,rfl,q3⟩
 | true=>exact ite_tt (chain_last (thn (hc pins s3 σ H3 _ I3 q3) λ w' s4 ⟨z',H4,I4,r4,q4⟩=>ho' pins s4 σ H4 y z' u w' Q I4 r2 r4 q4))
theorem Jv {op op':CmpOp}{r r':R2}(ho:OpR X (compareOp op) r)(ho':OpR X (compareOp op') r')(ha:PE X a ta)(hb:PE X b tb)(hc:PE X c tc)
  (hm:lastMarks [op,op'] [b,c]=false:=by with_unfolding_all rfl):PT X (.Compare a [op,op'] [b,c] pos) (Jt (EJ r r' ta tb tc)):=by
 intro pins s σ H Q I h;refine isTrue_chain (thn (ha pins s σ H _ I h) λ v s1 ⟨x,H1,I1,r1,q1⟩=>test_link (thn (hb pins s1 σ H1 _ I1 q1) λ u s2 ⟨y,H2,I2,r2,q2⟩ =>thn (ho pins s2 σ H2 x y v u _ I2 r1 r2 q2) λ d s3 ⟨z,H3,I3,r3,k,e,q3⟩=>?_)) hm
 subst e;cases r3;refine cx ?_;cases k with
 | false =>obtain⟨k',e',q'⟩:=q3;cases e';exact ite_ff ⟨H3,I3,q'⟩
 | true =>refine ite_tt (test_last (thn (hc pins s3 σ H3 _ I3 q3) λ w' s4 ⟨z',H4,I4,r4,q4⟩=>thn (ho' pins s4 σ H4 y z' u w' _ I4 r2 r4 q4) λ d' s5 ⟨z2,H5,I5,r5,k2,e2,q5⟩=>?_));subst e2;cases r5;exact cx ⟨H5,I5,q5⟩
def Jw (K:iF)(x:V)(H:Hp)(k:Bool):Prop :=
 match x with
 | .non=>k=false
 | .bl b=>k=b
 | .int i=>k=(i != 0)
 | .str y=>y.length<=sizeLine/\k=((y.length:Int) != 0)
 | .byt y=>y.size<=sizeLine/\k=((y.size:Int) != 0)
 | .ref p=>(∃ xs,SqL K H p xs/\k=!xs.isEmpty)\/(∃ xs,SqT K H p xs/\k=!xs.isEmpty)\/∃ kvs,H p=some (.dK kvs)/\k=!kvs.isEmpty
 | _=>False
theorem EK {κ:Type}{kvs:List (κ×V)}{vs:List (κ×iG)}(r:KV kvs vs):(!vs.isEmpty)=!kvs.isEmpty:=by cases r<;>rfl
theorem xN {xs:List V}{its:List iG}(r:Vals xs its):(!its.toArray.isEmpty)=!xs.isEmpty:=by cases r<;>simp
theorem vh:(sizeLine:Nat)<2 ^ 63:=by rw[sizeLine_eq];decide
theorem Pt:UJ X (λ x H Q=>∃ k,Jw X.K x H k/\Q k H):=by
 intro pins s σ H x v Q I rx h;obtain⟨k,e,q⟩:=h;have hl:=vh;have hs:sizeLine=16777216:=sizeLine_eq;cases x with
 | non =>cases rx;have e':k=false:=e;subst e';exact truthy_none ⟨H,I,q⟩
 | bl b =>cases rx;have e':k=b:=e;subst e';exact cx ⟨H,I,q⟩
 | int i =>obtain⟨t,rfl⟩:=rx;have e':k=(i != 0):=e;subst e';exact PySem.P.truthy_int ⟨H,I,q⟩
 | str y =>obtain⟨t,rfl⟩:=rx;obtain⟨hy,e'⟩:y.length<=sizeLine/\k=((y.length:Int) != 0):=e;subst e';exact PySem.P.truthy_str (by lia) ⟨H,I.tok _,q⟩
 | byt y =>obtain⟨t,rfl⟩:=rx;obtain⟨hy,e'⟩:y.size<=sizeLine/\k=((y.size:Int) != 0):=e;subst e';exact PySem.W.truthy_bytes (by lia) ⟨H,I.tok _,q⟩
 | ref p =>
  cases rx;have e':(∃ xs,SqL X.K H p xs/\k=!xs.isEmpty)\/(∃ xs,SqT X.K H p xs/\k=!xs.isEmpty)\/∃ kvs,H p=some (.dK kvs)/\k=!kvs.isEmpty:=e;rcases e' with⟨xs,hx,e'⟩ | ⟨xs,hx,e'⟩ | ⟨kvs,hx,e'⟩
  ·subst e';obtain⟨its,r,pl,hz⟩:=I.list hx;have hlen:=r.length;exact wpAny_truthy_list pl.isList (by simp only[aM];lia) ⟨H,I.tok _,by rw[xN r];exact q⟩
  ·subst e';obtain⟨its,r,pl,hz⟩:=I.tuple hx;have hlen:=r.length;exact truthy_tuple pl (by simp only[aM];lia) ⟨H,I.tok _,by rw[xN r];exact q⟩
  ·subst e';obtain⟨hz,hS,vs,r,m⟩:kvs.length<=sizeLine/\(p==sysModules)=false/\∃ vs,KV kvs vs/\s.heap.DictOf (ky X.prog X.w) p vs:=I.hok p _ hx;have hlen:kvs.length=vs.length:=f_ r;exact wpAny_truthy_dict hS m (by lia) ⟨H,I.tok _,by rw[EK r];exact q⟩
 | _=>exact(show False from e).elim
theorem xO (ha:PE X a ta)(he:∀ whole,isTrue a X.env whole=(do let v<-whole;standAt a.pos;holding [v] (truthy v))) :
  PT X a (λ σ H Q=>ta σ H λ x H'=>∃ k,Jw X.K x H' k/\Q k H'):=by
 intro pins s σ H Q I h;exact isTrue_plain (thn (ha pins s σ H _ I h) λ v s1 ⟨x,H1,I1,r1,q1⟩=>Pt pins s1 σ H1 x v Q I1 r1 q1) (he _)
theorem vals1 {x:V}{us:List iG}(r:Vals [x] us):∃ u,us=[u]/\RelV x u:=by
 cases r with
 | cons r1 r2=>cases r2;exact⟨_,rfl,r1⟩
theorem vals2 {x y:V}{us:List iG}(r:Vals [x,y] us):∃ u w',us=[u,w']/\RelV x u/\RelV y w':=by
 cases r with
 | cons r1 r2 =>
  cases r2 with
  | cons r3 r4=>cases r4;exact⟨_,_,rfl,r1,r3⟩
theorem Jx:kz X (.builtin "abs") (λ xs H Q=>∃ i,xs=[.int i]/\Q (.int (if i<0 then -i else i)) H):=by intro pins s σ H xs us Q I r h;obtain⟨i,rfl,q⟩:=h;obtain⟨u,rfl,t,rfl⟩:=vals1 r;exact call_abs_int λ u tk=>⟨.int (if i<0 then -i else i),H,I.tok _,⟨_,rfl⟩,q⟩
theorem vi (hc:X.calm=true):kz X (.builtin "max") (λ xs H Q=>∃ i j,xs=[.int i,.int j]/\Q (.int (if j>i then j else i)) H):=by
 intro pins s σ H xs us Q I r h;obtain⟨i,j,rfl,q⟩:=h;obtain⟨u,w',rfl,⟨t,rfl⟩,⟨t',rfl⟩⟩:=vals2 r;refine max_two_ints (I.ok.hd hc) λ h' tk k=>⟨_,H,I.kept k,?_,q⟩;by_cases hj:j>i
 ·rw[af hj,af hj];exact⟨_,rfl⟩
 ·rw[ah hj,ah hj];exact⟨_,rfl⟩
theorem vj (hc:X.calm=true):kz X (.builtin "min") (λ xs H Q=>∃ i j,xs=[.int i,.int j]/\Q (.int (if j<i then j else i)) H):=by
 intro pins s σ H xs us Q I r h;obtain⟨i,j,rfl,q⟩:=h;obtain⟨u,w',rfl,⟨t,rfl⟩,⟨t',rfl⟩⟩:=vals2 r;refine min_two_ints (I.ok.hd hc) λ h' tk k=>⟨_,H,I.kept k,?_,q⟩;by_cases hj:j<i
 ·rw[af hj,af hj];exact⟨_,rfl⟩
 ·rw[ah hj,ah hj];exact⟨_,rfl⟩
end
structure V9 (h:Heap)(x dx C:Addr)(mA:iq):Prop where
 obj:h.get? x=some (PySem.W.instObj C dx)
 ns:h.Ns1 dx mA
 ne:dx≠x
section
variable {prog:Program}{w:World}{A:Around}{E:ir}{s:iH}{K:iF}{x dx C f:Addr}{mA:iq}{name:Str}{v:iG}
end
theorem zN.some_of {v:V}{o:iA iG}(r:zN (some v) o):∃ u,o=some u/\RelV v u:=by
 cases o with
 | none=>exact(show False from r).elim
 | some u=>exact⟨u,rfl,r⟩
section
variable {P:Program}{w:World}{H H':Hp}{h h':Heap}{a C dx:Addr}{fs fs':List (Str×V)}
end
structure Cls (K:iF)(C:Addr):Prop where
 pg:PySem.W.plainGet K C Str.empty=true
 hd:PySem.W.hasDictIn K C=true
 po:PySem.W.plainOver K C=true
 sa:PySem.W.findIn K (.ref C) "__setattr__"=some (some (.builtin "object.__setattr__"))
structure Con (K:iF)(C:Addr)(f:Str)(v:V)(u:iG):Prop where
 at_:PySem.W.findIn K (.ref C) f=some (some u)
 rel:RelV v u
 get:PySem.W.specialIn K u "__get__"=some none
 cp:PySem.W.copiedNames.contains f=false
structure Meth (K:iF)(C:Addr)(m:Str)(f:Addr):Prop where
 at_:PySem.W.findIn K (.ref C) m=some (some (.ref f))
 fn:PySem.W.isFn K (.ref f)=true
 kp:PySem.W.keepIn K (.ref f)=true
section
variable {X:Cx}{pins:iJ}{σ:St}{H:Hp}{s:iH}{a C dx:Addr}{fs:List (Str×V)}{f:Str}{v:V}{A:Around}{E:ir}
end
section
variable {X:Cx}{o e value:Expr}{f:Str}{pos pos' tpos:Pos}{ta tv:TE}
end
section
variable {X:Cx}{pins:iJ}{σ:St}{H:Hp}{s:iH}{A:Around}{E:ir}{Q:ir}{c:iG}{b:Bool}
inductive xP (K:iF) (H:Hp):V->iG->Prop where
 | non:xP K H .non (.type "NoneType")
 | bl (x:Bool):xP K H (.bl x) (.type "bool")
 | int (i:Int):xP K H (.int i) (.type "int")
 | str (x:Str):xP K H (.str x) (.type "str")
 | flt (x:UInt64):xP K H (.flt x) (.type "float")
 | lst {a:Addr} {xs:List V} (e:H a=some (.lst xs)):xP K H (.ref a) (.type "list")
 | frz {a:Addr} {o:Obj} {xs:List V} (e:H a=some (.frz o (.lst xs))):xP K H (.ref a) (.type "list")
 | tup {a:Addr} {xs:List V} (e:H a=some (.tup xs)):xP K H (.ref a) (.type "tuple")
 | dK {a:Addr} {kvs:List (Key×V)} (e:H a=some (.dK kvs)):xP K H (.ref a) (.type "dict")
 | dT {a:Addr} {kvs:List (List Key×V)} (e:H a=some (.dT kvs)):xP K H (.ref a) (.type "dict")
 | ins {a C dx:Addr} {fs:List (Str×V)} (e:H a=some (.ins C dx fs)) (cl:Cls K C) (ha:PySem.W.findIn K (.ref C) "__class__"=some (some (.builtin "object.__class__")))
   (hn:PySem.W.specialIn K (.builtin "object.__class__") "__get__"=some (some (.builtin "getset_descriptor.__get__"))) (htk:PySem.W.takesIn K (.builtin "object.__class__")=some true)
   (hm:PySem.W.mroIn K C (.type "object")=some true):xP K H (.ref a) (.ref C)
end
structure lV (k:Nat)(A:Around):Prop where
 hd:A.handled=none
 dp:A.depth+3*k+5<recursionLimit
 un:A.units+16*k+200<cLine
theorem lV.mono {j k:Nat}{A:Around}(r:lV k A)(h:j<=k):lV j A:=⟨r.hd,by have:=r.dp;lia,by have:=r.un;lia⟩
theorem lV.deeper {k:Nat}{A:Around}(r:lV (k+1) A)(env:Env):lV k (A.deeper env) :=
 ⟨r.hd,by have:=r.dp;show A.depth+1+3*k+5<_;lia,by have:=r.un;show A.units+3+16*k+200<_;lia⟩
theorem lV.depth {k:Nat}{A:Around}(r:lV k A):A.depth<recursionLimit:=by have:=r.dp;lia
theorem lV.units {k:Nat}{A:Around}(r:lV k A):A.units+64<cLine:=by have:=r.un;lia
def jG:TA:=λ _ H Q=>Q [] H
def i_ (ta:TE)(tr:TA):TA:=λ σ H Q=>ta σ H λ x H1=>tr σ H1 λ xs H2=>Q (x::xs) H2
section
variable {X:Cx}{e:Expr}{es:List Expr}{te:TE}{t:TA}{pos:Pos}
theorem jb:PA X [] jG:=λ _ _ _ _ H Q I h=>Calls.spliced_nil ⟨[],H,I,.nil,h⟩
theorem iR (ha:PE X e te)(hr:PA X es t)(hs:starEach (e::es) X.env=(false,eval e X.env)::starEach es X.env:=by rfl):PA X (e::es) (i_ te t):=by intro pos pins s σ H Q I h;rw[hs];show wpAny _ _ (spliced ((false,eval e X.env)::backTo pos (starEach es X.env))) _ _ s;refine Calls.spliced_cons (thn (ha pins s σ H _ I h) λ u s1 ⟨x,H1,I1,r1,q1⟩=>?_);exact thn (hr pos pins s1 σ H1 _ I1 q1) λ us s2 ⟨xs,H2,I2,r2,q2⟩=>⟨x::xs,H2,I2,.cons r1 r2,q2⟩
def CI (t:TA):TE:=λ σ H Q=>t σ H λ xs H1=>xs.length<=sizeLine/\∀ p,H1 p=none->Q (.ref p) (upd H1 p (.tup xs))
def xQ (t:TA):TE:=λ σ H Q=>t σ H λ xs H1=>xs.length<=sizeLine/\∀ p,H1 p=none->Q (.ref p) (upd H1 p (.lst xs))
theorem pI {x1}(h:PA X es t):PE X (.Tuple es x1 pos) (CI t):=by intro pins s σ H Q I hq;refine wpAny_Tuple_spliced (thn (h pos pins s σ H _ I hq) λ us s1 ⟨xs,H1,I1,r,z,q⟩=>⟨by rw[<-r.length];exact z,?_⟩);have hf:H1 s1.heap.objs.size=none:=I1.hok.fresh (ak _);refine⟨.ref s1.heap.objs.size,upd H1 s1.heap.objs.size (.tup xs),I1.laid (t':=s1.toks) (λ b u e=>ai _ e) (ak _) ?_,rfl,q _ hf⟩;exact⟨⟨z,_,aS _ rfl,rfl⟩,us,r,⟨_,aS _ rfl,rfl,_,rfl⟩⟩
theorem me (h:PA X es t):PE X (.List es pos) (xQ t):=by intro pins s σ H Q I hq;refine wpAny_List_spliced (thn (h pos pins s σ H _ I hq) λ us s1 ⟨xs,H1,I1,r,z,q⟩=>⟨by rw[<-r.length];exact z,?_⟩);have hf:H1 s1.heap.objs.size=none:=I1.hok.fresh (ak _);refine⟨.ref s1.heap.objs.size,upd H1 s1.heap.objs.size (.lst xs),I1.laid (t':=s1.toks) (λ b u e=>ai _ e) (ak _) ?_,rfl,q _ hf⟩;exact⟨z,us,0,r,aS _ rfl⟩
end
abbrev Sp:=List V->Hp->VK->XK->Prop
abbrev CXT:=List Env->Hp->iH->XK->iG->iH->Prop
structure Mm (P:Program)(w:World)(K:iF)(mg:iq)(base:Heap)(A:Around)(outer:List Env)(s:iH)(H:Hp):Prop where
 frames:A.frames=some outer
 mod:Mod K mg base
 bs:∀ b o,base.get? b=some o->s.heap.get? b=some o/\H b=none
 bsz:base.objs.size<=s.heap.objs.size
 xI:s.heap.FunFrames base outer
 frf:∀ b∈frs outer,H b=none
 hok:HOk P w H s.heap
 bare:AllBare s.gens
def CE (outer:List Env)(P:Program)(w:World)(H:Hp)(s:iH)(Q:VK)(u:iG)(s':iH):Prop :=
 ∃ v H',s'.os=s.os/\AllBare s'.gens/\Un (frs outer) [] H H' s.heap s'.heap/\HOk P w H' s'.heap/\RelV v u/\Q v H'
def CR (CX:CXT)(outer:List Env)(P:Program)(w:World)(H:Hp)(s:iH)(Q:VK)(E:XK)(r:Result)(s':iH):Prop :=
 match r with
 | .ok (.ret u)=>CE outer P w H s Q u s'
 | .ok _=>False
 | .error e=>CX outer H s E e s'
structure vk (P:Program)(w:World)(K:iF)(mg:iq)(base:Heap)(CX:CXT)(k:Nat)(f:Addr)(fd:FuncData)(ps:List Str)(sp:Sp):Prop where
 len:∀ vs H Q E,sp vs H Q E->vs.length=ps.length
 run:∀ (A:Around) (outer:List Env) (s:iH) (H:Hp) (args:Args) (us:List iG) (vs:List V) (Q:VK) (E:XK),lV k A->Mm P w K mg base A outer s H->BindsTo s fd args (ps.zip us)->Vals vs us->sp vs H Q E ->
  codeAny (model P w) A (.call (.ref f) args) (CR CX outer P w H s Q E) s
section
variable {X:Cx}{pins:iJ}{σ:St}{H:Hp}{s s':iH}
theorem Inv.UM (I:Inv X pins σ H s):Mm X.prog X.w X.K X.mg X.base X.A X.stack s H :=
 ⟨I.ok.frames,I.ok.mod,I.bs,bf I.ok.bsz I.sz,I.stack,I.F9,I.hok,I.bare⟩
theorem Inv.after {Q:VK}{u:iG}(I:Inv X pins σ H s)(h:CE X.stack X.prog X.w H s Q u s'):EP X pins σ Q u s':=by obtain⟨v,H',os,bare,un,hok,r,q⟩:=h;obtain⟨hh,g,d,t,os'⟩:=s';obtain rfl:os'=s.os:=os;exact⟨v,H',I.call (h':=hh) (g':=g) (d':=d) (t':=t) (ch:=[]) un hok bare (λ b z=>absurd z (by simp)),r,q⟩
end
def kD (sp:Sp)(dvs:List V)(E:XK)(t:TA):TE:=λ σ H Q=>t σ H λ vs H1=>sp (vs++dvs) H1 Q E
def Binds (K:iF)(fd:FuncData)(ps:List Str)(ds:List iG):Prop :=
 ∀ (s:iH) (us:List iG),K.In s.heap->(us++ds).length=ps.length->BindsTo s fd ⟨us,[]⟩ (ps.zip (us++ds))
theorem Binds.all {K:iF}{fd:FuncData}{ps:List Str}(h:∀ us:List iG,us.length=ps.length->bindArgs fd ⟨us,[]⟩=pure (ps.zip us)):Binds K fd ps []:=λ s us _ hl=>by rw[cF]at hl ⊢;exact .of_eq (h us hl)
def Passes (CX:CXT)(X:Cx)(E:XK):Prop:=∀ (pins:iJ) (σ:St) (H:Hp) (s:iH) (e:iG) (s':iH),Inv X pins σ H s->CX X.stack H s E e s'->X.xe e s'
section
variable {X:Cx}{CX:CXT}{k:Nat}{f C:Addr}{fd:FuncData}{ps:List Str}{sp:Sp}{dvs:List V}{ds:List iG}{E:XK}{x m:Str}{p pos apos:Pos}{e o:Expr}{es:List Expr}{ta:TE}{t:TA}
theorem Pu {pins:iJ}{σ:St}{H:Hp}{s:iH}{Q:VK}{us:List iG}{vs:List V}(F:vk X.prog X.w X.K X.mg X.base CX k f fd ps sp)(hr:lV k X.A)(hb:Binds X.K fd ps ds)(hd:Vals dvs ds)(hx:Passes CX X E)
  (I:Inv X pins σ H s) (r:Vals vs us) (h:sp (vs++dvs) H Q E):wpAny (model X.prog X.w) X.A (call (.ref f) us) (EP X pins σ Q) X.xe s:=by
 have r2:Vals (vs++dvs) (us++ds):=r.append hd;have hl:(us++ds).length=ps.length:=by rw[<-r2.length];exact F.len _ _ _ _ h
 refine wpAny_call (codeAny_mono (F.run X.A X.stack s H ⟨us,[]⟩ (us++ds) (vs++dvs) Q E hr I.UM (hb s us I.kIn hl) r2 h) λ r s' hq=>?_);cases r with
 | error e=>exact hx pins σ H s e s' I hq
 | ok fl =>
  cases fl with
  | ret u=>exact I.after hq
  | next=>exact False.elim hq
  | brk=>exact False.elim hq
  | cont=>exact False.elim hq
theorem Gd (F:vk X.prog X.w X.K X.mg X.base CX k f fd ps sp)(hr:lV k X.A)(hg:Gl X x)(hm:X.mg x=some (.ref f))(hk:PySem.W.keepIn X.K (.ref f)=true)(hb:Binds X.K fd ps ds)(hd:Vals dvs ds)(hx:Passes CX X E)
  (ha:PA X (e::es) t) (hdb:(x==("__debug__":Str))=false:=by decide) (he:starEach (e::es) X.env=(false,eval e X.env)::starEach es X.env:=by rfl) (hpl:(backTo pos (starEach es X.env)).any (·.1)=false:=by rfl) :
  PE X (.Call (.Name x p) (e::es) [] pos) (kD sp dvs E t):=by
 intro pins s σ H Q I h;refine gK (F_ I hg hm ?_ hdb);refine PySem.W.callWith_K (h₀:=X.base) I.ok.mod.kin hk (thn (ha pos pins s σ H _ I h) λ us s1 ⟨vs,H1,I1,r,q⟩=>⟨I1.kIn,?_⟩) he hpl;exact Pu F hr hb hd hx I1 r q
structure Mk (K:iF)(C f:Addr):Prop where
 makes:PySem.W.makesIn K C=true
 init:PySem.W.findIn K (.ref C) "__init__"=some (some (.ref f))
 fn:PySem.W.isFn K (.ref f)=true
 kp:PySem.W.keepIn K (.ref C)=true
end
section
variable {X:Cx}{CX:CXT}{k:Nat}{f C:Addr}{fd:FuncData}{ps ks:List Str}{sp:Sp}{E:XK}{x m:Str}{p pos apos kpos:Pos}{e o:Expr}{es:List Expr}{kws:List Keyword}{te ta:TE}{t tk:TA}{nm:iA Str}
structure UN (K:iF)(fd:FuncData)(ps ks:List Str)(g:List iG->List iG->List iG)(gV:List V->List V->List V):Prop where
 to:∀ (s:iH) (us ws:List iG),K.In s.heap->(g us ws).length=ps.length->BindsTo s fd ⟨us,ks.zip ws⟩ (ps.zip (g us ws))
 rel:∀ {vs:List V} {us:List iG} {zs:List V} {ws:List iG},Vals vs us->Vals zs ws->Vals (gV vs zs) (g us ws)
variable {g:List iG->List iG->List iG}{gV:List V->List V->List V}
end
structure jg (N P:List Str)(sc:Scope):Prop where
 kind:sc.kind=.function
 co:sc.isCoroutine=false
 gen:sc.isGenerator=false
 nd:N.Nodup
 pre:N.take P.length=P
 par:∀ x∈P,sc.names.lookup x=some .local\/sc.names.lookup x=some .cell
 Pw:∀ y∈sc.names,y.2≠.free
theorem Ak {kindOf:Str->iA NameKind}{x:Str}:∀ {binds:List (Str×iG)} {m:iq},(∀ v,(x,v)∉binds)->bindL kindOf binds m x=m x
 | [],_,_=>rfl
 | (n,v)::r,m,h=>by
  unfold bindL;rw[Ak λ w hw=>h w (av _ hw)];split
  ·have:x≠n:=by rintro rfl;exact h v ar
   simp[this]
  ·rfl
theorem Al {kindOf:Str->iA NameKind}{x:Str}:∀ {binds:List (Str×iG)} {m:iq},(∀ v,(x,v)∉binds)->bindC kindOf binds m x=m x
 | [],_,_=>rfl
 | (n,v)::r,m,h=>by
  unfold bindC;rw[Al λ w hw=>h w (av _ hw)];split
  ·rfl
  ·have:x≠n:=by rintro rfl;exact h v ar
   simp[this]
theorem Am {kindOf:Str->iA NameKind}{x:Str}{v:iG}:∀ {P:List Str} {vs:List iG} {i:Nat} {m:iq},P.Nodup->P[i]?=some x->vs[i]?=some v->kindOf x=some .local ->
  bindL kindOf (P.zip vs) m x=some v
 | [],_,_,_,_,h,_,_=>by simp at h
 | _::_,[],_,_,_,_,h,_=>by simp at h
 | p::P,w::vs,0,m,nd,h1,h2,hk=>by simp at h1 h2;subst h1;subst h2;show bindL kindOf ((p,w)::P.zip vs) m p=_;unfold bindL;rw[Ak λ v hv=>(bx.mp nd).1 (eh hv).1,af hk];simp
 | p::P,w::vs,i+1,m,nd,h1,h2,hk=>by show bindL kindOf ((p,w)::P.zip vs) m x=_;unfold bindL;exact Am (i:=i) (bx.mp nd).2 (by simpa using h1) (by simpa using h2) hk
theorem An {kindOf:Str->iA NameKind}{x:Str}{v:iG}:∀ {P:List Str} {vs:List iG} {i:Nat} {m:iq},P.Nodup->P[i]?=some x->vs[i]?=some v->kindOf x≠some .local ->
  bindC kindOf (P.zip vs) m x=some v
 | [],_,_,_,_,h,_,_=>by simp at h
 | _::_,[],_,_,_,_,h,_=>by simp at h
 | p::P,w::vs,0,m,nd,h1,h2,hk=>by simp at h1 h2;subst h1;subst h2;show bindC kindOf ((p,w)::P.zip vs) m p=_;unfold bindC;rw[Al λ v hv=>(bx.mp nd).1 (eh hv).1,ah hk];simp
 | p::P,w::vs,i+1,m,nd,h1,h2,hk=>by show bindC kindOf ((p,w)::P.zip vs) m x=_;unfold bindC;exact An (i:=i) (bx.mp nd).2 (by simpa using h1) (by simpa using h2) hk
def start (N:List Str)(vs:List V):St:=vs.map some++List.replicate (N.length-vs.length) none
def CJ (CX:CXT)(P:Program)(w:World)(K:iF)(mg:iq)(base:Heap)(N:List Str)(qual:Str)(scope:Scope)(f:Addr)(cd:iG)(A:Around)(outer:List Env)(s:iH)(H:Hp)(E:XK):Cx where
 prog:=P
 w:=w
 K:=K
 mg:=mg
 base:=base
 A:=A.deeper (envOfC qual scope s.heap.objs.size f cd)
 N:=N
 s₀:=s
 H₀:=H
 env:=envOfC qual scope s.heap.objs.size f cd
 outer:=outer
 stack:=envOfC qual scope s.heap.objs.size f cd::outer
 ex:=[]
 calm:=true
 fn:=λ _=>true
 pn:=[]
 xe:=λ e s'=>wpAny (model P w) (A.deeper (envOfC qual scope s.heap.objs.size f cd)) (leaving (envOfC qual scope s.heap.objs.size f cd) e) (λ _ s''=>CX outer H s E e s'') (λ e' s''=>CX outer H s E e' s'') s'
theorem CK {sc:Scope}{n:Nat}{x:Str}(h:sc.names.lookup x=some .cell):∃ c,(cellsFrom n sc.names []).lookup x=some c:=by have q:=PySem.W.cellsFrom_some sc.names n [] (.inl h);exact Option.isSome_iff_exists.mp q
theorem HW {CX:CXT}{P:Program}{w:World}{K:iF}{mg:iq}{base:Heap}{N ps:List Str}{qual:Str}{scope:Scope}{f:Addr}{cd:iG}{A:Around}{outer:List Env}{s s1:iH}{H:Hp}{E:XK}{us:List iG}{vs:List V}
  (S:jg N ps scope) (hd:A.handled=none) (e0:Mm P w K mg base A outer s H) (hl:vs.length=ps.length) (r:Vals vs us)
  (x:InCallC s s.heap.objs.size (bindL (envOfC qual scope s.heap.objs.size f cd).kindOf (ps.zip us) λ _=>none) (cellsFrom (s.heap.objs.size+1) scope.names []) (bindC (envOfC qual scope s.heap.objs.size f cd).kindOf (ps.zip us) λ _=>none) s1) :
  Inv (CJ CX P w K mg base N qual scope f cd A outer s H E) [] (start N vs) H s1:=by
 have hpl:ps.length<=N.length:=by have:=cK List.length S.pre;rw[dZ]at this;lia
 obtain⟨h1,tk,rfl,hk⟩:=x.done;have noA:∀ b:Addr,b∉(CJ CX P w K mg base N qual scope f cd A outer s H E).ex:=λ b z=>absurd (show b∈([]:List Addr) from z) (by simp);refine⟨⟨e0.mod,S.kind,rfl,rfl,ak _,λ y z c h1 h2=>?_,λ y hy=>?_,λ y c _ h=>?_,λ _=>hd,Around.frames_deeper e0.frames,.inr ⟨rfl,rfl⟩,λ b z=>absurd z (noA b),e0.bs,e0.bsz,λ b _ _=>noA b,λ b z=>absurd z (noA b),e0.xI,e0.frf⟩,
  rfl,e0.bare,Un.kept hk,⟨_,x.toInCall.ns,λ i y v h1 h2 h3=>?_⟩,λ y c h=>⟨_,x.cell y c h⟩,e0.hok.fresh (ak _),λ y c h=>?_,λ p hp=>absurd (show p∈([]:iJ) from hp) (by simp),e0.hok.kept hk,?_⟩
 ·exact name_of_addr x.apart (dU h1) (dU h2)
 ·have hy:scope.names.lookup y=some .cell\/scope.names.lookup y=some .free:=hy
  rcases hy with hy | hy
  ·exact CK hy
  ·exact absurd rfl (S.Pw _ (dU hy))
 ·exact fq (x.above y c (dU h))
 ·have hi:i<vs.length:=by
   unfold start at h2;by_cases hi:i<vs.length
   ·exact hi
   ·rw[bS (by simpa using hi)]at h2;rw[fF]at h2;split at h2<;>cases h2
  have ha:vs[i]?=some v:=by
   unfold start at h2;rw[bW (by simpa using hi),ax]at h2;cases e:vs[i]? with
   | none=>rw[e]at h2;cases h2
   | some a=>rw[e]at h2;cases h2;rfl
  obtain⟨u,hu,rv⟩:=r.get ha;have hp:ps[i]?=some y:=by rw[<-S.pre,fx (by lia)];exact h1
  have ndP:ps.Nodup:=by rw[<-S.pre];exact S.nd.sublist (List.take_sublist _ _)
  refine⟨u,rv,?_⟩;rcases S.par y (a8 hp) with k | k
  ·exact .inl ⟨k,Am ndP hp hu k⟩
  ·obtain⟨c,e⟩:=CK (n:=s.heap.objs.size+1) k;refine .inr ⟨.inl k,c,e,?_⟩;have q:=x.cell y c e;rw[An ndP hp hu (by show scope.names.lookup y≠_;rw[k];decide)]at q;exact q
 ·exact e0.hok.fresh (fq (x.above y c (dU h)))
 ·unfold start;show _=N.length;rw[aT,ag,List.length_replicate];lia
theorem RT {CX:CXT}{P:Program}{w:World}{K:iF}{mg:iq}{base:Heap}{k:Nat}{f:Addr}{name qual:Str}{params:Arguments}{body:List Stmt}{scope:Scope}{dV kV doc pm cdv ct oc:iG}{an od:iA Addr}
  {osl:Array (iA iG)} {N ps:List Str} {sp:Sp} (lk:K.lookup f=some ⟨oc,od,.func (PySem.W.fnOf name qual params body scope dV kV doc pm an cdv ct),osl⟩) (hcd:PySem.W.codeIn K cdv qual=true) (S:jg N ps scope)
  (len:∀ vs H Q E,sp vs H Q E->vs.length=ps.length)
  (hbody:∀ (A:Around) (outer:List Env) (s:iH) (H:Hp) (vs:List V) (Q:VK) (E:XK),lV k (A.deeper (envOfC qual scope s.heap.objs.size f cdv))->sp vs H Q E ->
   ∃ t,PSs (CJ CX P w K mg base N qual scope f cdv A outer s H E) body t/\t {nx:=λ _ H'=>Q .non H',rt:=Q} (start N vs) H) :
  vk P w K mg base CX (k+1) f (PySem.W.fnOf name qual params body scope dV kV doc pm an cdv ct) ps sp:=by
 refine⟨len,λ A outer s H args us vs Q E hr e0 hb r hsp=>?_⟩;have hl:=len _ _ _ _ hsp;have KX:K.In s.heap:=e0.mod.kin.keeps λ b o e=>(e0.bs b o e).1;have lim:s.heap.NoLimit:=e0.mod.nolimit.keeps λ b o e=>(e0.bs b o e).1;have hkind:∀ y∈ps.zip us,scope.names.lookup y.1=some .local\/(scope.names.lookup y.1=some .cell/\((cellsFrom (s.heap.objs.size+1) scope.names []).lookup y.1).isSome=true):=λ⟨n,v⟩ hy=>by
  rcases S.par n (eh hy).1 with q | q
  ·exact .inl q
  ·exact .inr ⟨q,PySem.W.cellsFrom_some _ _ _ (.inl q)⟩
 refine codeAny_call_function hr.depth (KX _ _ lk) rfl S.co S.gen rfl (PySem.W.codeRec_of KX hcd) (hb _ _ _ _ ?_);refine wpAny_newFunctionEnv_cells S.kind hkind λ env he s1 x=>?_;subst he;refine⟨lim.keeps x.toInCall.keep,codeAny_func ?_⟩;obtain⟨t,ht,hq⟩:=hbody A outer s H vs Q E (hr.deeper _) hsp;have I:Inv (CJ CX P w K mg base N qual scope f cdv A outer s H E) [] (start N vs) H s1:=HW S hr.hd e0 hl r x;refine fh (ht [] s1 (start N vs) H _ I hq) (λ fl s' hs=>?_) λ e s' hs=>hs;have fin:∀ {σ':St} {H':Hp} {v:V} {u:iG},Inv (CJ CX P w K mg base N qual scope f cdv A outer s H E) [] σ' H' s'->RelV v u->Q v H'->CE outer P w H s Q u s' :=
  λ{σ' H' v u} J rv q=>⟨v,H',J.os,J.bare,J.base,J.hok,rv,q⟩
 cases fl with
 | ret u =>obtain⟨v,σ',H',J,rv,q⟩:=hs;exact fin J rv q
 | next =>obtain⟨σ',H',J,q⟩:=hs;exact fin (v:=V.non) (u:=Value.none) J rfl q
 | brk =>obtain⟨_,_,_,q⟩:=hs;exact False.elim q
 | cont =>obtain⟨_,_,_,q⟩:=hs;exact False.elim q
section
variable {X:Cx}{x:Str}{p pos:Pos}{e:Expr}{es:List Expr}{t:TA}{id T:String}{r:List V->Hp->VK->Prop}
def tCB (r:List V->Hp->VK->Prop)(t:TA):TE:=λ σ H Q=>t σ H λ vs H1=>r vs H1 Q
theorem lK (hc:kz X (.builtin id) r)(hg:Gl X x)(hm:X.mg x=none)(hv:bootBuiltins x=some (.builtin id))(ha:PA X (e::es) t)(hn:x≠"__name__":=by decide)(hdb:(x==("__debug__":Str))=false:=by decide)
  (he:starEach (e::es) X.env=(false,eval e X.env)::starEach es X.env:=by rfl) (hpl:(backTo pos (starEach es X.env)).any (·.1)=false:=by rfl):PE X (.Call (.Name x p) (e::es) [] pos) (tCB r t):=by
 intro pins s σ H Q I h;refine gK (sH I hg hm hv ?_ hn hdb);exact PyProof.Rows.callWith_builtin1 (thn (ha pos pins s σ H _ I h) λ us s1 ⟨vs,H1,I1,r1,q1⟩=>hc pins s1 σ H1 vs us Q I1 r1 q1) he hpl
theorem o4 (hc:kz X (.type T) r)(hg:Gl X x)(hm:X.mg x=none)(hv:bootBuiltins x=some (.type T))(ha:PA X (e::es) t)(hn:x≠"__name__":=by decide)(hdb:(x==("__debug__":Str))=false:=by decide)
  (he:starEach (e::es) X.env=(false,eval e X.env)::starEach es X.env:=by rfl) (hpl:(backTo pos (starEach es X.env)).any (·.1)=false:=by rfl):PE X (.Call (.Name x p) (e::es) [] pos) (tCB r t):=by
 intro pins s σ H Q I h;refine gK (sH I hg hm hv ?_ hn hdb);exact cU (thn (ha pos pins s σ H _ I h) λ us s1 ⟨vs,H1,I1,r1,q1⟩=>hc pins s1 σ H1 vs us Q I1 r1 q1) he hpl
end
end L2
namespace HT
open PySem PyProof.Rows
def lexLt:List Int->List Int->Bool
 | [],[]=>false
 | [],_::_=>true
 | _::_,[]=>false
 | x::xs,y::ys=>if x=y then lexLt xs ys else decide (x<y)
theorem EL (x y:Int)(xs ys:List Int):lexLt (x::xs) (y::ys)=if x=y then lexLt xs ys else decide (x<y):=rfl
theorem zQ:lexLt [] []=false:=rfl
theorem xR (y:Int)(ys:List Int):lexLt [] (y::ys)=true:=rfl
theorem xS (x:Int)(xs:List Int):lexLt (x::xs) []=false:=rfl
theorem Jy (A:Around)(s:iH)(a:Int)(t:Tok)(c:Int)(u:Tok):∃ e,SeqAt.EqAt A s (.int a t) (.int c u) e/\(e=true↔a=c) :=
 ⟨(a==c),SeqAt.EqAt.int_int a t c u,by simp⟩
theorem Jz (A:Around)(s:iH)(a:Int)(t:Tok)(c:Int)(u:Tok)(prog:Program)(w:World)(E:ir)(Q:ir)(h:Q (.bool (decide (a<c))) s) :
  wpAny (model prog w) A (richCompare .Lt (.int a t) (.int c u)) Q E s :=
 (PyProof.Rows.lt_int h:wpAny (model prog w) A (compareOp .Lt (.int a t) (.int c u)) Q E s)
section
open PySem.SeqAt
open PySem.AutoSeq1 (wpAny_loadPart')
open PySem.MeetsSeq PySem.MeetsSeq2 PySem.MeetsSeq3
theorem zR (l b:Addr)(items items2:Array iG)(n n2:Nat)(dd dd2:iA Addr)(sl sl2:Array (iA iG))(ns ms:List Int)(hi:IntsAre items.toList ns)(hj:IntsAre items2.toList ms) :
  Meets (Builtin.«tuple.__lt__» ⟨[.ref l,.ref b],[]⟩)
   (λ _ R s=>s.heap.get? l=some {cls:=.type "tuple",dict:=dd,data:=.seq items n,slots:=sl}/\s.heap.get? b=some {cls:=.type "tuple",dict:=dd2,data:=.seq items2 n2,slots:=sl2} /\
    R (.ok (.ret (.bool (lexLt ns ms)))) s) :=
 .of_wp λ prog w A R s h=>by
  obtain⟨hp,g,d,tk,os⟩:=s;obtain⟨hl,hb,h⟩:=h;have f2:=AutoSeq1.sub_tuple_tuple;have z1:items.size=ns.length:=by rw[<-hi.length];simp
  have z2:items2.size=ms.length:=by rw[<-hj.length];simp
  wp_walk using wpAny_loadPart' hl,wpAny_loadPart' hb,wpAny_forIn_list _ (λ rest b s'=>b.1=none/\s'=⟨hp,g,d,tk,os⟩/\∃ (vs ws:List iG) (ns' ms':List Int),rest=vs.zip ws /\
   IntsAre vs ns'/\IntsAre ws ms'/\ns'.length+items2.size=ms'.length+items.size/\R (.ok (.ret (.bool (lexLt ns' ms')))) ⟨hp,g,d,tk,os⟩) _
  case turn =>
   rintro⟨y,x⟩ rest b s' ⟨hb',rfl,vs,ws,ns',ms',hz,hvi,hwi,hlen,hR⟩;cases hvi with
   | nil=>rw[List.zip_nil_left]at hz;cases hz
   | cons a t hvi' =>
    cases hwi with
    | nil=>rw[List.zip_nil_right]at hz;cases hz
    | cons c u hwi' =>
     rw[eV]at hz;injection hz with hyx hrest;injection hyx with hy hx;subst hy hx;rw[EL]at hR;simp only[aQ]at hlen;obtain⟨e,he,hiff⟩:=Jy A.in1 ⟨hp,g,d,tk,os⟩ a t c u;refine aa (he prog w _ _ ?_);cases e with
     | true =>
      rw[af (hiff.mp rfl)]at hR
      wp_walk
      exact⟨rfl,rfl,_,_,_,_,hrest,hvi',hwi',by lia,hR⟩
     | false =>
      rw[ah (λ q=>absurd (hiff.mpr q) aI)]at hR;have hri:=Jz A.in1 ⟨hp,g,d,tk,os⟩ a t c u prog w
      wp_walk using hri
      exact⟨_,rfl,by simpa using hR⟩
  case fin =>
   rintro⟨b1,b2⟩ s' ⟨hb',rfl,vs,ws,ns',ms',hz,hvi,hwi,hlen,hR⟩;simp only at hb';subst hb';have hv:lexLt ns' ms'=decide (items.size<items2.size):=by
    cases hvi with
    | nil =>
     cases hwi with
     | nil =>simp only[cn]at hlen;rw[zQ];exact(decide_eq_false (by lia)).symm
     | cons c u hw =>simp only[cn,aQ]at hlen;rw[xR];exact(decide_eq_true (by lia)).symm
    | cons a t hv =>
     cases hwi with
     | nil =>simp only[cn,aQ]at hlen;rw[xS];exact(decide_eq_false (by lia)).symm
     | cons c u hw =>rw[eV]at hz;cases hz
   rw[hv]at hR
   wp_walk
   exact⟨_,rfl,by simpa [Builtin.Tuple.tupleCompareSizes] using hR⟩
  case h =>exact⟨rfl,rfl,items.toList,items2.toList,ns,ms,rfl,hi,hj,by lia,h⟩
end
section
variable {prog:Program}{w:World}{A:Around}{E:ir}{s:iH}
theorem EM {l b:Addr}{items items2:Array iG}{ns ms:List Int}{Q:ir}(hl:IsTup s.heap l items)(hb:IsTup s.heap b items2)(hi:IntsAre items.toList ns)(hj:IntsAre items2.toList ms)
  (hu:A.units<cLine) (h:Q (.bool (lexLt ns ms)) s):wpAny (model prog w) A (compareOp .Lt (.ref l) (.ref b)) Q E s:=by
 obtain⟨⟨cls,dd,data,sl⟩,ho,hc,n,hd⟩:=id hl;obtain⟨⟨cls2,dd2,data2,sl2⟩,ho2,hc2,n2,hd2⟩:=id hb;simp only at hc hd hc2 hd2;subst hc hd hc2 hd2;exact richCompare_meets_room (op:=.Lt) ⟨_,ho,rfl⟩ ⟨_,ho2,rfl⟩ PySem.F.slot_tuple_lt PySem.F.entry_tuple_lt (PySem.F.args_tuple_lt_2 _ _) (zR l b items items2 n n2 dd dd2 sl sl2 ns ms hi hj)
  ⟨ho,ho2,show Value.bool (lexLt ns ms)≠Value.notImplemented/\Q (.bool (lexLt ns ms)) s from ⟨(λ x=>nomatch x),h⟩⟩ hu
def sIx (n d:Nat):iA Int->Nat
 | none=>d
 | some v=>if v<0 then (v+(n:Int)).toNat else min v.toNat n
theorem CL (n d:Nat):sIx n d none=d:=rfl
theorem A8 (n d k:Nat):sIx n d (some (k:Int))=min k n:=by show(if (k:Int)<0 then ((k:Int)+(n:Int)).toNat else min (k:Int).toNat n)=min k n;rw[ah (by lia),bQ]
theorem Px (n d:Nat)(hd:d<=n)(o:iA Int):sIx n d o<=n:=by
 cases o with
 | none=>exact hd
 | some v =>
  show(if v<0 then (v+(n:Int)).toNat else min v.toNat n)<=n;by_cases hv:v<0
  ·rw[af hv];lia
  ·rw[ah hv];exact Nat.min_le_right _ _
theorem Ge (v:Int)(n d:Nat):(if v<0 then max (v+(n:Int)) 0 else min v (n:Int))=((sIx n d (some v):Nat):Int):=by
 show(if v<0 then max (v+(n:Int)) 0 else min v (n:Int))=(((if v<0 then (v+(n:Int)).toNat else min v.toNat n):Nat):Int);by_cases hv:v<0
 ·simp only[af hv];lia
 ·simp only[ah hv];lia
theorem EN (lo hi:iA Int)(n:Nat):Builtin.Slice.sliceAdjust lo hi 1 (n:Int)=(((sIx n 0 lo:Nat):Int),((sIx n n hi:Nat):Int)):=by
 have h1:¬ ((1:Int)<0):=by lia
 unfold Builtin.Slice.sliceAdjust;simp only[h1,bY];refine Prod.ext ?_ ?_
 ·cases lo with
  | none=>rfl
  | some v=>exact Ge v n 0
 ·cases hi with
  | none=>rfl
  | some v=>exact Ge v n n
theorem EO (i j:Nat):Builtin.Slice.slicePlaces (i:Int) (j:Int) 1=j-i:=by
 unfold Builtin.Slice.slicePlaces;have h1:(1:Int)>0:=by lia
 simp only[h1,cM,Int.ediv_one];split<;>lia
theorem xT {v:iG}{o:iA Int}{Q:iA Int->iH->Prop}(p:IsPart v o)(h:Q o s):wpAny (model prog w) A (Builtin.Slice.slicePartIndex v) Q E s:=by
 cases p with
 | none=>exact slicePart_none h
 | int i t=>exact slicePart_int h
theorem vm {sl:Addr}{vl vu:iG}{lo hi:iA Int}{n:Nat}{Q:Int×Int×Nat->iH->Prop}(hs:s.heap.IsSliceOf sl vl vu .none)(pl:IsPart vl lo)(pu:IsPart vu hi)
  (h:Q (((sIx n 0 lo:Nat):Int),1,sIx n n hi-sIx n 0 lo) s):wpAny (model prog w) A (Builtin.Slice.sliceApplied (.ref sl) (pure (n:Int))) Q E s:=by
 obtain⟨os,hos,hcs,hds⟩:=id hs;unfold Builtin.Slice.sliceApplied Builtin.Slice.sliceFields;refine aa (aa (cN hos hds (x:=vl) rfl (aa (cN hos hds (x:=vu) rfl (aa (cN hos hds (x:=.none) rfl (ao ?_)))))));refine aa (slicePart_none ?_);show wpAny _ _ (if ((1:Int)==0)=true then _ else _) _ _ s;rw[ah (by decide)];refine aa (xT pl (aa (xT pu (aa (ao ?_)))));show wpAny _ _ (match Builtin.Slice.sliceAdjust lo hi 1 (n:Int) with | (lo,hi)=>pure (lo,(1:Int),Builtin.Slice.slicePlaces lo hi 1)) _ _ s;rw[EN lo hi n];show wpAny _ _ (pure (((sIx n 0 lo:Nat):Int),(1:Int),Builtin.Slice.slicePlaces ((sIx n 0 lo:Nat):Int) ((sIx n n hi:Nat):Int) 1)) _ _ s;rw[EO];exact ao h
theorem JA (xs:Array iG)(i k:Nat):((List.range k).filterMap λ(m:Nat)=>xs[((i:Int)+(m:Int)*1).toNat]?).toArray=((xs.toList.drop i).take k).toArray:=by
 have e:(λ(m:Nat)=>xs[((i:Int)+(m:Int)*1).toNat]?)=λ m=>xs[i+m]?:=by
  funext m;have:((i:Int)+(m:Int)*1).toNat=i+m:=by lia
  rw[this]
 rw[e];have:=pick_run xs i k;rw[List.filterMap_map]at this;have e2:((λ x=>xs[x]?)∘λ x=>i+x)=λ m=>xs[i+m]?:=rfl;rw[e2]at this;rw[this]
theorem tO {t sl:Addr}{items:Array iG}{vl vu:iG}{lo hi:iA Int}{Q:ir}(ht:IsTup s.heap t items)(hs:s.heap.IsSliceOf sl vl vu .none)(pl:IsPart vl lo)(pu:IsPart vu hi)
  (hw:¬ (sIx items.size 0 lo=0/\sIx items.size items.size hi=items.size))
  (h:Q (.ref s.heap.objs.size) {s with heap:=s.heap.push {cls:=.type "tuple",data:=.seq ((items.toList.drop (sIx items.size 0 lo)).take (sIx items.size items.size hi-sIx items.size 0 lo)).toArray}})
  (hsz:items.size<=sizeLine):wpAny (model prog w) A (getItem (.ref t) (.ref sl)) Q E s:=by
 have htake:sizeOk (.seq ((items.toList.drop (sIx items.size 0 lo)).take (sIx items.size items.size hi-sIx items.size 0 lo)).toArray):=by show((items.toList.drop (sIx items.size 0 lo)).take (sIx items.size items.size hi-sIx items.size 0 lo)).toArray.size<=sizeLine;rw[aM,dZ,List.length_drop,cL];lia (config:={})
 have hj:sIx items.size items.size hi<=items.size:=Px _ _ (ak _) hi;obtain⟨os,hos,hcs,hds⟩:=id hs;have hTs:s.TypeIs (.ref sl) "slice":=⟨os,hos,hcs⟩;unfold getItem;try with_reducible refine dF ?_
 first | refine aa (ao ?_) | skip
 refine aa (wpAny_sequenceKey ht.typeIs (by decide) ?_);refine aa (cB (name:=Str.ofString "__getitem__") ht.typeIs eQ
  (cH eQ ht.typeIs entry_tuple_getitem ?_ (args_tuple_getitem _ _)))
 show wpAny _ _ (Builtin.Tuple.tupleItemsOf (.ref t)>>=_) _ _ s;refine aa (tupleItemsOf_ ht ?_);refine aa (wpAny_typeOf hTs ?_);rw[af (by decide)];refine aa (vm hs pl pu ?_);have hno:¬ ((((sIx items.size 0 lo:Nat):Int)==0&&(1:Int)==1&&(sIx items.size items.size hi-sIx items.size 0 lo)==items.size)=true):=by intro q;rw[cS,cS]at q;have q1:((sIx items.size 0 lo:Nat):Int)=0:=eq_of_beq q.1.1;have q2:sIx items.size items.size hi-sIx items.size 0 lo=items.size:=eq_of_beq q.2;exact hw ⟨by lia (config:={}),by lia (config:={})⟩
 show wpAny _ _ (if (((sIx items.size 0 lo:Nat):Int)==0&&(1:Int)==1&&(sIx items.size items.size hi-sIx items.size 0 lo)==items.size)=true then _ else _) _ _ s;rw[ah hno,JA];first
  | exact aa (m:=Builtin.Tuple.tupleExact _) (cu (ao ⟨_,rfl,ao h⟩) htake)
  | exact aa (m:=Builtin.Tuple.tupleExact _) (cu (aa (ao (ao ⟨_,rfl,ao h⟩))) htake)
  | exact aa (aa (m:=Builtin.Tuple.tupleExact _) (cu (ao (ao ⟨_,rfl,ao h⟩)) htake))
  | exact aa (aa (m:=Builtin.Tuple.tupleExact _) (cu (ao ⟨_,rfl,ao h⟩) htake))
end
end HT
namespace L2
open PySem PySem.Spec PyProof.Rows
abbrev TO:=St->Hp->(iA Int->Hp->Prop)->Prop
def PO (X:Cx)(e:iA Expr)(t:TO):Prop :=
 ∀ (pins:iJ) (s:iH) (σ:St) (H:Hp) (Q:iA Int->Hp->Prop),Inv X pins σ H s->t σ H Q ->
  wpAny (model X.prog X.w) X.A (evalPart e X.env) (λ u s'=>∃ o H',Inv X pins σ H' s'/\IsPart u o/\Q o H') X.xe s
def Gf:TO:=λ _ H Q=>Q none H
def Ol (t:TE):TO:=λ σ H Q=>t σ H λ x H1=>∃ i,x=.int i/\Q (some i) H1
theorem intsAre_of {ns:List Int}:∀ {us:List iG},Vals (ns.map V.int) us->IntsAre us ns:=by
 induction ns with
 | nil=>intro us r;rw[dH]at r;cases r;exact .nil
 | cons n ns ih =>
  intro us r;rw[aq]at r;cases r with
  | cons r1 r2 =>obtain⟨t,e⟩:=r1;subst e;exact .cons n t (ih r2)
section
variable {X:Cx}{e:Expr}{te:TE}{lo hi:iA Expr}{tl th:TO}{pos p2:Pos}
theorem Gg:PO X none Gf:=by intro pins s σ H Q I h;rw[evalPart_none];exact ao ⟨none,H,I,.none,h⟩
theorem Gh (h:PE X e te):PO X (some e) (Ol te):=by intro pins s σ H Q I hw;rw[evalPart_some];refine thn (h pins s σ H _ I hw) λ u s1 ⟨x,H1,I1,r1,q1⟩=>?_;obtain⟨i,rfl,q⟩:=q1;obtain⟨t,rfl⟩:=r1;exact⟨some i,H1,I1,.int i t,q⟩
def SlR (X:Cx)(r:V->iA Int->iA Int->Hp->VK->Prop):Prop :=
 ∀ (pins:iJ) (s:iH) (σ:St) (H:Hp) (x:V) (v vl vu:iG) (lo hi:iA Int) (sl:Addr) (Q:VK),Inv X pins σ H s->RelV x v->s.heap.IsSliceOf sl vl vu .none->IsPart vl lo->IsPart vu hi->r x lo hi H Q ->
  ∃ T id,typeLookup (.type T) "__getitem__"=pure (some (.builtin id))/\s.TypeIs v T/\wpAny (model X.prog X.w) X.A (getItem v (.ref sl)) (EP X pins σ Q) X.xe s
def tSl (r:V->iA Int->iA Int->Hp->VK->Prop)(te:TE)(tl th:TO):TE:=λ σ H Q=>te σ H λ x H1=>tl σ H1 λ l H2=>th σ H2 λ u H3=>r x l u H3 Q
theorem CM {r:V->iA Int->iA Int->Hp->VK->Prop}(hr:SlR X r)(he:PE X e te)(hl:PO X lo tl)(hu:PO X hi th):PE X (.Subscript e (.Slice lo hi none p2) pos) (tSl r te tl th):=by intro pins s σ H Q I h;refine Subscript_ (thn (he pins s σ H _ I h) λ v s1 ⟨x,H1,I1,r1,q1⟩=>?_);refine wpAny_Slice (thn (hl pins s1 σ H1 _ I1 q1) λ vl s2 ⟨l,H2,I2,pl,q2⟩=>thn (hu pins s2 σ H2 _ I2 q2) λ vu s3 ⟨u,H3,I3,pu,q3⟩=>?_);rw[evalPart_none];refine ao ?_;have I4:Inv X pins σ H3 {s3 with heap:=s3.heap.push {cls:=.type "slice",data:=.fields #[vl,vu,.none]}}:=I3.kept (t':=s3.toks) λ b ob q=>ai _ q;obtain⟨T,id,hT,ht,hg⟩:=hr pins {s3 with heap:=s3.heap.push {cls:=.type "slice",data:=.fields #[vl,vu,.none]}} σ H3 x v vl vu l u s3.heap.objs.size Q I4 r1 (Heap.IsSliceOf.new ..) pl pu q3;show wpAny (model X.prog X.w) X.A (subscriptTail e (.Slice lo hi none p2) v (.ref s3.heap.objs.size)) (EP X pins σ Q) X.xe {s3 with heap:=s3.heap.push {cls:=.type "slice",data:=.fields #[vl,vu,.none]}};exact tail_any (ops:=[.ref s3.heap.objs.size,v]) ht hT hg (by with_unfolding_all rfl)
def zS (xs:List V)(lo hi:iA Int):List V:=(xs.drop (HT.sIx xs.length 0 lo)).take (HT.sIx xs.length xs.length hi-HT.sIx xs.length 0 lo)
theorem vY (xs:List V)(lo hi:iA Int):(zS xs lo hi).length<=xs.length:=by unfold zS;rw[dZ,List.length_drop];lia
def UO (K:iF):V->iA Int->iA Int->Hp->VK->Prop:=λ x lo hi H Q=>∃ a xs,x=.ref a/\SqT K H a xs /\
 ¬ (HT.sIx xs.length 0 lo=0/\HT.sIx xs.length xs.length hi=xs.length)/\∀ p,H p=none->Q (.ref p) (upd H p (.tup (zS xs lo hi)))
theorem Py:SlR X (UO X.K):=by
 intro pins s σ H x v vl vu lo hi sl Q I rx hs pl pu h;obtain⟨a,xs,rfl,hx,hw,q⟩:=h;cases rx;obtain⟨its,r,ht,hz⟩:=I.tuple hx;have hlen:its.toArray.size=xs.length:=by rw[aM];exact r.length.symm
 refine⟨"tuple",_,eQ.lookup,ht.typeIs,?_⟩;refine HT.tO ht hs pl pu (by rw[hlen];exact hw) ?_ (by rw[hlen];exact hz);rw[hlen];refine⟨.ref s.heap.objs.size,_,I.laid (t':=s.toks) (o:=.tup (zS xs lo hi)) (λ b ob q=>ai _ q) (ak _) ?_,rfl,q _ (I.hok.fresh (ak _))⟩;exact⟨⟨bf (vY xs lo hi) hz,_,aS _ rfl,rfl⟩,_,(r.drop (HT.sIx xs.length 0 lo)).take (HT.sIx xs.length xs.length hi-HT.sIx xs.length 0 lo),IsTup.new _ _⟩
def UP (K:iF):R2:=λ x y H Q=>∃ a b ns ms,x=.ref a/\y=.ref b/\SqT K H a (ns.map V.int)/\SqT K H b (ms.map V.int)/\Q (.bl (HT.lexLt ns ms)) H
theorem Pz (hu:X.A.units<cLine):OpR X (compareOp .Lt) (UP X.K):=by intro pins s σ H x y v u Q I rx ry h;obtain⟨a,b,ns,ms,rfl,rfl,ha,hb,q⟩:=h;cases rx;cases ry;obtain⟨its,r1,p1,_⟩:=I.tuple ha;obtain⟨its2,r2,p2,_⟩:=I.tuple hb;have i1:IntsAre its.toArray.toList ns:=intsAre_of r1;have i2:IntsAre its2.toArray.toList ms:=intsAre_of r2;exact HT.EM p1 p2 i1 i2 hu ⟨.bl (HT.lexLt ns ms),H,I,rfl,q⟩
end
def ixN (n:Nat)(i:Int):iA Nat:=if 0<=i then (if i<n then some i.toNat else none) else if -(n:Int)<=i then some (i+n).toNat else none
def atI {α:Type}(xs:List α)(i:Int):iA α:=(ixN xs.length i).bind λ j=>xs[j]?
theorem Gi {n:Nat}{i:Int}{j:Nat}(h:ixN n i=some j):seqIndex? i n=some j/\j<n/\-(n:Int)<=i/\i<n:=by
 unfold ixN at h;by_cases h0:0<=i
 ·rw[af h0]at h
  by_cases h1:i<n
  ·rw[af h1]at h;have e:i.toNat=j:=aF h;exact⟨by rw[seqIndex_of h0 h1,e],by lia,by lia,h1⟩
  ·rw[ah h1]at h;cases h
 ·rw[ah h0]at h
  by_cases h1:-(n:Int)<=i
  ·rw[af h1]at h;have e:(i+n).toNat=j:=aF h;exact⟨by rw[seqIndex_neg (by lia) h1,e],by lia,h1,by lia⟩
  ·rw[ah h1]at h;cases h
theorem Gj {α:Type}{xs:List α}{i:Int}{v:α}(h:atI xs i=some v):∃ j,seqIndex? i xs.length=some j/\xs[j]?=some v/\j<xs.length/\-(xs.length:Int)<=i/\i<xs.length:=by
 unfold atI at h;cases e:ixN xs.length i with
 | none=>rw[e]at h;cases h
 | some j =>rw[e]at h;obtain⟨h1,h2,h3,h4⟩:=Gi e;exact⟨j,h1,h,h2,h3,h4⟩
theorem lx {α:Type}{xs:List α}{j:Nat}{v:α}(h:xs[j]?=some v):atI xs (j:Int)=some v:=by
 have hj:j<xs.length:=(ba.mp h).1;have e:ixN xs.length (j:Int)=some j:=by unfold ixN;rw[af (by lia),af (by lia)];simp
 unfold atI;rw[e];exact h
theorem tP {α:Type}(xs:List α)(v:α):atI (xs++[v]) (-1)=some v:=by
 have hl:(xs++[v]).length=xs.length+1:=by simp
 have e:ixN (xs++[v]).length (-1)=some xs.length:=by unfold ixN;rw[hl,ah (by decide),af (by lia)];congr 1;lia
 unfold atI;rw[e];show(xs++[v])[xs.length]?=some v;simp
def Gk (b:Expr):Prop:=∀ o i,subscripted b false o i=operate [o,i] (getItem o i)
def IxR (X:Cx)(r:R2):Prop :=
 ∀ (value slice:Expr) (pins:iJ) (s:iH) (σ:St) (H:Hp) (x y:V) (v u:iG) (Q:VK),Inv X pins σ H s->RelV x v->RelV y u->r x y H Q ->
  subscripted slice false v u=operate [v,u] (getItem v u)->wpAny (model X.prog X.w) X.A (subscriptTail value slice v u) (EP X pins σ Q) X.xe s
def MtR (X:Cx)(id:String)(r:V->List V->Hp->VK->Prop):Prop :=
 ∀ (pins:iJ) (s:iH) (σ:St) (H:Hp) (x:V) (xs:List V) (v:iG) (us:List iG) (Q:VK),Inv X pins σ H s->RelV x v->Vals xs us->r x xs H Q ->
  wpAny (model X.prog X.w) X.A (call (.builtin id) (v::us)) (EP X pins σ Q) X.xe s
section
variable {X:Cx}{a b:Expr}{ta tb:TE}{pos:Pos}
theorem kW {r:R2}(hr:IxR X r)(ha:PE X a ta)(hb:PE X b tb)(hs:Gk b):PE X (.Subscript a b pos) (tOp r ta tb):=by intro pins s σ H Q I h;exact Subscript_ (Pn ha hb I h λ v u s2 x y H2 I2 rx ry q=>hr a b pins s2 σ H2 x y v u Q I2 rx ry q (hs _ _))
def vn (K:iF):R2:=λ x y H Q=>∃ p xs i v,x=.ref p/\y=.int i/\SqL K H p xs/\atI xs i=some v/\Q v H
def JB (K:iF):R2:=λ x y H Q=>∃ p xs i v,x=.ref p/\y=.int i/\SqT K H p xs/\atI xs i=some v/\Q v H
theorem kG:IxR X (vn X.K):=by
 intro value slice pins s σ H x y v u Q I rx ry h hs;obtain⟨p,xs,i,z,rfl,rfl,hq,he,q⟩:=h;cases rx;obtain⟨t,rfl⟩:=ry;obtain⟨its,r,pl,hz⟩:=I.list hq;obtain⟨j,h1,h2,h3,h4,h5⟩:=Gj he;obtain⟨w,ew,rw'⟩:=r.get h2;have hl:=r.length;have hn:=vh;have fin:EP X pins σ Q w s:=⟨z,H,I,rw',q⟩;by_cases h0:0<=i
 ·have hj:i.toNat=j:=by
   rw[seqIndex_of h0 h5]at h1;exact aF h1
  exact item_listR pl.isList h0 (by lia) (by rw[hj];simpa using ew) fin hs
 ·have hj:(i+(its.toArray.size:Int)).toNat=j:=by
   rw[seqIndex_neg (by lia) h4]at h1;rw[aM,<-hl];exact aF h1
  exact subscriptTail_builtinR (x:=w) pl.isList.typeIs slot_list_getitem.lookup
   (wpAny_getItem_list_neg (Q:=λ r s'=>r=w/\EP X pins σ Q r s') pl.isList (by lia) (by rw[aM]<;>lia) (by lia) (by rw[hj];simpa using ew) ⟨rfl,fin⟩) hs
theorem pJ:IxR X (JB X.K):=by
 intro value slice pins s σ H x y v u Q I rx ry h hs;obtain⟨p,xs,i,z,rfl,rfl,hq,he,q⟩:=h;cases rx;obtain⟨t,rfl⟩:=ry;obtain⟨its,r,pl,hz⟩:=I.tuple hq;obtain⟨j,h1,h2,h3,h4,h5⟩:=Gj he;obtain⟨w,ew,rw'⟩:=r.get h2;have hl:=r.length;have hn:=vh;have fin:EP X pins σ Q w s:=⟨z,H,I,rw',q⟩;exact subscriptTail_builtinR (x:=w) pl.typeIs slot_tuple_getitem.lookup
  (getItem_tuple (j:=j) (Q:=λ r s'=>r=w/\EP X pins σ Q r s') pl (by lia) (by lia) (by rw[aM,<-hl];exact h1) (by simpa using ew) ⟨rfl,fin⟩) hs
theorem ER (its:List iG)(n j:Nat)(u:iG):Obj.mapSeq (·.setIfInBounds j u) {cls:=.type "list",data:=.seq its.toArray n}={cls:=.type "list",data:=.seq (its.set j u).toArray n}:=by simp[Obj.mapSeq]
theorem Inv.lst {pins:iJ}{σ:St}{H:Hp}{s:iH}{p:Addr}{xs:List V}(I:Inv X pins σ H s)(h:H p=some (.lst xs)) :
  ∃ (its:List iG) (n:Nat),Vals xs its/\s.heap.get? p=some {cls:=.type "list",data:=.seq its.toArray n}/\xs.length<=sizeLine:=by
 obtain⟨z,its,n,r,e⟩:=I.hok p _ h;exact⟨its,n,r,e,z⟩
theorem Inv.PB {pins:iJ}{σ:St}{H:Hp}{s:iH}{p:Addr}{xs ys:List V}{its its':List iG}{n n':Nat}{f:Obj->Obj}(I:Inv X pins σ H s)(h:H p=some (.lst xs))
  (ho:s.heap.get? p=some {cls:=.type "list",data:=.seq its.toArray n}) (hf:f {cls:=.type "list",data:=.seq its.toArray n}={cls:=.type "list",data:=.seq its'.toArray n'}) (r:Vals ys its') (hz:ys.length<=sizeLine) (t:Nat) :
  Inv X pins σ (upd H p (.lst ys)) {s with heap:=s.heap.update p f,toks:=t}:=by
 have e:(s.heap.update p f).get? p=some {cls:=.type "list",data:=.seq its'.toArray n'}:=by rw[ed f ho (by rw[hf]<;>rfl),hf]
 refine I.write (x:=p) (e:=p) (by rw[h];trivial) (.inl rfl) (λ b u hb q=>(Heap.get?_update_other _ _ (aX hb)).trans q) ⟨_,e⟩ ?_;exact⟨hz,its',n',r,e⟩
def tQ:V->V->V->Hp->(Hp->Prop)->Prop:=λ o i v H Q=>∃ p xs k j,o=.ref p/\i=.int k/\H p=some (.lst xs)/\ixN xs.length k=some j/\Q (upd H p (.lst (xs.set j v)))
theorem set_list:RO X tQ:=by
 intro pins s σ H o i v ov iv u Q I ro ri rv h;obtain⟨p,xs,k,j,rfl,rfl,hp,hj,q⟩:=h;cases ro;obtain⟨t,rfl⟩:=ri;obtain⟨its,n,r,ho,hz⟩:=I.lst hp;obtain⟨h1,h2,h3,h4⟩:=Gi hj;have hl:=r.length;have hn:=vh;have I':Inv X pins σ (upd H p (.lst (xs.set j v))) {s with heap:=s.heap.update p (Obj.mapSeq (·.setIfInBounds j u))} :=
  I.PB hp ho (ER its n j u) (r.set rv j) (by rw[gy];exact hz) s.toks
 by_cases h0:0<=k
 ·have hk:k.toNat=j:=by
   rw[seqIndex_of h0 h4]at h1;exact aF h1
  exact PySem.W.ki_setAt ho h0 (by lia) (by rw[aM,<-hl];exact h4) (by rw[hk];exact⟨_,I',q⟩)
 ·have hk:(k+(its.toArray.size:Int)).toNat=j:=by
   rw[seqIndex_neg (by lia) h3]at h1;rw[aM,<-hl];exact aF h1
  exact PySem.W.ki_setBack ho (by lia) (by rw[aM,<-hl];exact h3) (by lia) (by rw[hk];exact⟨_,I',q⟩)
theorem A9 (lo hi:iA Int)(n:Nat):(sliceBounds lo hi none n).1=((HT.sIx n 0 lo:Nat):Int)/\(sliceBounds lo hi none n).2.1=((HT.sIx n n hi:Nat):Int)/\(sliceBounds lo hi none n).2.2=1:=by
 refine⟨?_,?_,rfl⟩
 ·cases lo with
  | none=>simp[sliceBounds,HT.sIx]
  | some i =>
   simp only[sliceBounds,HT.sIx,Option.getD_none,show(1:Int)>0 by decide,cM];by_cases h:i<0
   ·simp only[h,cM]<;>lia
   ·simp only[h,bY]<;>lia
 ·cases hi with
  | none=>simp[sliceBounds,HT.sIx]
  | some i =>
   simp only[sliceBounds,HT.sIx,Option.getD_none,show(1:Int)>0 by decide,cM];by_cases h:i<0
   ·simp only[h,cM]<;>lia
   ·simp only[h,bY]<;>lia
theorem zT (its:List iG)(lo hi:iA Int):slicePick its.toArray lo hi none=((its.drop (HT.sIx its.length 0 lo)).take (HT.sIx its.length its.length hi-HT.sIx its.length 0 lo)).toArray:=by obtain⟨h1,h2,h3⟩:=A9 lo hi its.toArray.size;unfold slicePick;rw[h1,h2,h3];simp only[sliceRange_one,pick_run,aM]<;>rfl
def RU (K:iF):V->iA Int->iA Int->Hp->VK->Prop:=λ x lo hi H Q=>∃ a xs,x=.ref a/\SqL K H a xs/\∀ p,H p=none->Q (.ref p) (upd H p (.lst (zS xs lo hi)))
theorem Mn:SlR X (RU X.K):=by intro pins s σ H x v vl vu lo hi sl Q I rx hs pl pu h;obtain⟨a,xs,rfl,hx,q⟩:=h;cases rx;obtain⟨its,r,ht,hz⟩:=I.list hx;have hlen:=r.length;refine⟨"list",_,slot_list_getitem.lookup,ht.isList.typeIs,?_⟩;refine wpAny_getItem_list_slice ht.isList hs pl pu .none (by simp) ?_ (by rw[aM]<;>lia);rw[zT,<-hlen];refine⟨.ref s.heap.objs.size,_,I.laid (t':=s.toks) (o:=.lst (zS xs lo hi)) (λ b ob q=>ai _ q) (ak _) ?_,rfl,q _ (I.hok.fresh (ak _))⟩;exact⟨bf (vY xs lo hi) hz,_,0,(r.drop (HT.sIx xs.length 0 lo)).take (HT.sIx xs.length xs.length hi-HT.sIx xs.length 0 lo),aS _ rfl⟩
theorem mf:kz X (.builtin "len") (λ xs H Q=>∃ p ys,xs=[.ref p]/\(SqL X.K H p ys\/SqT X.K H p ys)/\Q (.int ys.length) H):=by
 intro pins s σ H xs us Q I r h;obtain⟨p,ys,rfl,hq,q⟩:=h;obtain⟨u,rfl,rx⟩:=vals1 r;cases rx;have hn:=vh;rcases hq with hq | hq
 ·obtain⟨its,r',pl,hz⟩:=I.list hq;have hlen:=r'.length;exact Calls.call_len_list pl.isList (by simp only[aM]<;>lia) ⟨.int ys.length,H,I.tok _,⟨s.toks+1,by rw[aM,hlen]⟩,q⟩
 ·obtain⟨its,r',pl,hz⟩:=I.tuple hq;have hlen:=r'.length;exact len_tuple pl (by simp only[aM]<;>lia) ⟨.int ys.length,H,I.tok _,⟨s.toks+1,by rw[aM,hlen]⟩,q⟩
theorem A_:kz X (.type "list") (λ xs H Q=>∃ p ys,xs=[.ref p]/\(SqL X.K H p ys\/SqT X.K H p ys)/\∀ l,H l=none->Q (.ref l) (upd H l (.lst ys))):=by
 intro pins s σ H xs us Q I r h;obtain⟨p,ys,rfl,hq,q⟩:=h;obtain⟨u,rfl,rx⟩:=vals1 r;cases rx;have fin:∀ (its:List iG),Vals ys its->ys.length<=sizeLine->∀ (h':Heap) (c':Nat),(∀ b o',s.heap.get? b=some o'->h'.get? b=some o') ->
   h'.get? s.heap.objs.size=some {cls:=.type "list",dict:=none,data:=.seq its.toArray c',slots:=#[]}->EP X pins σ Q (.ref s.heap.objs.size) {s with heap:=h'}:=λ its r' hz h' c' kp e =>
  ⟨.ref s.heap.objs.size,_,I.laid (t':=s.toks) kp (ak _) (show kR X.prog X.w _ h' _ (.lst ys) from ⟨hz,its,c',r',e⟩),rfl,q _ (I.hok.fresh (ak _))⟩
 rcases hq with hq | hq
 ·obtain⟨its,r',pl,hz⟩:=I.list hq;have hlen:=r'.length;obtain⟨o,ho,hc,n,hd⟩:=pl.isList;exact call_list_seq p (.inl rfl) ho hc hd (λ h' c' kp e=>fin its r' hz h' c' kp e) (by simp only[aM]<;>lia)
 ·obtain⟨its,r',pl,hz⟩:=I.tuple hq;have hlen:=r'.length;obtain⟨o,ho,hc,n,hd⟩:=pl;exact call_list_seq p (.inr rfl) ho hc hd (λ h' c' kp e=>fin its r' hz h' c' kp e) (by simp only[aM]<;>lia)
theorem se:kz X (.type "tuple") (λ xs H Q=>∃ p ys,xs=[.ref p]/\((SqL X.K H p ys/\∀ l,H l=none->Q (.ref l) (upd H l (.tup ys)))\/(SqT X.K H p ys/\Q (.ref p) H))):=by
 intro pins s σ H xs us Q I r h;obtain⟨p,ys,rfl,h⟩:=h;obtain⟨u,rfl,rx⟩:=vals1 r;cases rx;rcases h with⟨hq,q⟩ | ⟨hq,q⟩
 ·obtain⟨its,r',pl,hz⟩:=I.list hq
  have hlen:=r'.length;refine call_tuple_list pl.isList (λ h' kp=>?_) (by simp only[aM]<;>lia);have I1:Inv X pins σ H {s with heap:=h'}:=I.kept (t':=s.toks) kp;have I2:Inv X pins σ (upd H h'.objs.size (.tup ys)) {s with heap:=h'.push {cls:=.type "tuple",data:=.seq its.toArray}} :=
   I1.laid (t':=s.toks) (λ b o e=>ai _ e) (ak _) (show kR X.prog X.w _ _ _ (.tup ys) from ⟨⟨hz,_,aS _ rfl,rfl⟩,its,r',IsTup.new _ _⟩)
  exact⟨.ref h'.objs.size,_,I2,rfl,q _ (I1.hok.fresh (ak _))⟩
 ·obtain⟨its,r',pl,hz⟩:=I.tuple hq;exact call_tuple_same pl ⟨.ref p,H,I,rfl,q⟩
def tyV (K:iF)(T:String)(x:V)(H:Hp):Prop:=match x with
 | .str _=>T="str"
 | .int _=>T="int"
 | .ref p=>(T="list"/\∃ xs,SqL K H p xs)\/(T="tuple"/\∃ o,K.lookup p=some o/\o.cls=.type "tuple"/\o.dict=none) \/
   (T="dict"/\((∃ kvs,H p=some (.dK kvs))\/∃ kvs,H p=some (.dT kvs)))\/(T="set"/\∃ S n,H p=some (.set S n))
 | _=>False
theorem PH {pins:iJ}{σ:St}{H:Hp}{s:iH}{T:String}{x:V}{v:iG}(I:Inv X pins σ H s)(r:RelV x v)(ty:tyV X.K T x H) :
  s.TypeIs v T/\∀ a,v=.ref a->∃ ob,s.heap.get? a=some ob/\ob.dict=none:=by
 cases x with
 | str z =>obtain⟨t,rfl⟩:=r;cases (show T="str" from ty);exact⟨typeIs_str s z t,λ _ e=>nomatch e⟩
 | int i =>obtain⟨t,rfl⟩:=r;cases (show T="int" from ty);exact⟨typeIs_int s i t,λ _ e=>nomatch e⟩
 | ref p =>
  cases r;rcases ty with⟨rfl,xs,hq⟩ | ⟨rfl,o,hk,hc,hd⟩ | ⟨rfl,hk⟩ | ⟨rfl,S,n,hk⟩
  ·obtain⟨its,_,pl,_⟩:=I.list hq;refine⟨pl.isList.typeIs,λ a e=>?_⟩;cases e;obtain⟨o,n,e,c,hd,_⟩:=pl;exact⟨o,e,hd⟩
  ·refine⟨⟨o,I.kIn p o hk,hc⟩,λ a e=>?_⟩;cases e;exact⟨o,I.kIn _ o hk,hd⟩
  ·have z:∃ o,s.heap.get? p=some o/\o.ExactDict:=by
    rcases hk with⟨kvs,hk⟩ | ⟨kvs,hk⟩
    ·obtain⟨_,_,_,_,o,_,_,e,ex,_⟩:=I.hok p _ hk;exact⟨o,e,ex⟩
    ·obtain⟨_,_,_,_,o,_,_,e,ex,_⟩:=I.hok p _ hk;exact⟨o,e,ex⟩
   obtain⟨o,e,ex⟩:=z;refine⟨⟨o,e,ex.1⟩,λ a e2=>?_⟩;cases e2;exact⟨o,e,ex.2.1⟩
  ·obtain⟨o,_,_,_,e,ex,_⟩:=I.hok p _ hk;refine⟨⟨o,e,ex.1⟩,λ a e2=>?_⟩;cases e2;exact⟨o,e,ex.2.1⟩
 | _=>exact False.elim ty
def tBM (K:iF)(T:String)(r:V->List V->Hp->VK->Prop)(to:TE)(t:TA):TE:=λ σ H Q=>to σ H λ x H1=>tyV K T x H1/\t σ H1 λ xs H2=>r x xs H2 Q
variable {o e:Expr}{es:List Expr}{to:TE}{t:TA}{name:Str}{apos cpos:Pos}{T id:String}{r:V->List V->Hp->VK->Prop}
theorem Ao (pa:PlainAttrs T)(slot:Slot T name id)(hty:typeOf (.builtin id)=pure (.type "method_descriptor"))(hm:MtR X id r)(ho:PE X o to)(ha:PA X (e::es) t)
  (hbase:attributeBase o name X.env (eval o X.env)=eval o X.env:=by rfl)
  (hfew:((backTo cpos (starEach (e::es) X.env)).all (λ x=>!x.1)&&(backToKw cpos (keywordEach [] X.env)).all (λ x=>x.1.isSome)
   && decide ((e::es).length+([]:List Keyword).length+(if ([]:List Keyword).isEmpty then 0 else 1)<30))=true:=by rfl)
  (hline:(apos.endLine==cpos.line)=true:=by rfl) (hs:starEach (e::es) X.env=(false,eval e X.env)::starEach es X.env:=by rfl) (hplain:(backTo cpos (starEach es X.env)).any (·.1)=false:=by rfl) :
  PE X (.Call (.Attribute o name apos) (e::es) [] cpos) (tBM X.K T r to t):=by
 intro pins s σ H Q I h;refine wpAny_Call_method_late hbase hfew hline rfl (thn (ho pins s σ H _ I h) λ v s1 ⟨x,H1,I1,r1,ty,q1⟩=>?_);obtain⟨h1,h2⟩:=PH I1 r1 ty;refine⟨T,id,pa,slot,hty,h1,h2,?_⟩;have hA:=ha cpos pins s1 σ H1 _ I1 q1;rw[hs]at hA ⊢;refine Calls.callWith_builtin (by show(false || (backTo cpos (starEach es X.env)).any (·.1))=false;rw[hplain]<;>rfl) (Calls.evalArgs_plain ?_);exact thn hA λ us s2 ⟨vs,H2,I2,r2,q2⟩=>hm pins s2 σ H2 x vs v us Q I2 r1 r2 q2
end
def MtM (X:Cx)(id:String)(r:V->List V->Hp->VK->Prop):Prop :=
 ∀ (pins:iJ) (s:iH) (σ:St) (H:Hp) (x:V) (xs:List V) (v:iG) (us:List iG) (Q:VK),Inv X pins σ H s->RelV x v->Vals xs us->r x xs H Q ->
  wpAny (model X.prog X.w) X.A (call (.builtin id) (v::us)) (EP X pins σ Q) X.xe s
theorem Vals.one:∀ {x:V} {us:List iG},Vals [x] us->∃ u,us=[u]/\RelV x u
 := by
 intro x us h;cases h with
 | cons r q=>cases q;exact⟨_,rfl,r⟩
theorem Vals.eraseIdx:∀ {xs:List V} {us:List iG} (i:Nat),Vals xs us->Vals (xs.eraseIdx i) (us.eraseIdx i)
 | _,_,_,.nil=>.nil
 | _,_,0,.cons _ t=>t
 | _,_,i+1,.cons r t=>.cons r (Vals.eraseIdx i t)
theorem Vals.rep {xs:List V}{us:List iG}(h:Vals xs us):∀ k:Nat,Vals (List.replicate k xs).flatten (List.replicate k us).flatten
 | 0=>.nil
 | k+1=>by rw[de,de,eG,eG];exact Vals.append h (Vals.rep h k)
theorem Aq {α:Type}:∀ (l:List α) (i:Nat),(l.eraseIdx i).length<=l.length
 | [],_=>ak _
 | _::_,0=>ib _
 | _::r,i+1=>Nat.succ_le_succ (Aq r i)
theorem foldl_rep (its:List iG):∀ (k:Nat) (acc:List iG),
  List.foldl (λ x1 x2=>x1++x2) acc.toArray (List.replicate k its.toArray)=(acc++(List.replicate k its).flatten).toArray
 | 0,acc=>by simp
 | k+1,acc=>by
  have e:acc.toArray++its.toArray=(acc++its).toArray:=by simp
  have e2:(acc++its)++(List.replicate k its).flatten=acc++(List.replicate (k+1) its).flatten:=by rw[de,eG,eJ]
  rw[<-e2,<-foldl_rep its k (acc++its),<-e,de,cG]
section
variable {X:Cx}{pins:iJ}{σ:St}{H:Hp}{s:iH}{l b:Addr}{xs ys zs:List V}
theorem Inv.PJ {its its':List iG}{n:Nat}{f:Array iG->Array iG}{t':Nat}(I:Inv X pins σ H s)(hH:H l=some (.lst xs))
  (e:s.heap.get? l=some {cls:=.type "list",data:=.seq its.toArray n}) (hf:f its.toArray=its'.toArray) (hv:Vals ys its') (hz:ys.length<=sizeLine) :
  Inv X pins σ (upd H l (.lst ys)) {s with heap:=s.heap.update l (Obj.mapSeq f),toks:=t'}:=by
 have q:=PySem.IsL.update e f;rw[hf]at q;refine I.write (x:=l) (e:=l) (by rw[hH];exact trivial) (.inl rfl) (λ b' u hb hu=>(Heap.get?_update_other s.heap (Obj.mapSeq f) (aX hb)).trans hu) ⟨_,q⟩ ?_;exact⟨hz,its',_,hv,q⟩
theorem Inv.RV {its:List iG}{t':Nat}(I:Inv X pins σ H s)(hv:Vals ys its)(hz:ys.length<=sizeLine) :
  Inv X pins σ (upd H s.heap.objs.size (.lst ys)) {s with heap:=s.heap.push {cls:=.type "list",data:=.seq its.toArray},toks:=t'} :=
 I.laid (λ _ _ q=>ai _ q) (ak _) ⟨hz,its,0,hv,aS _ rfl⟩
theorem Inv.fresh (I:Inv X pins σ H s):H s.heap.objs.size=none:=I.hok.fresh (ak _)
theorem Inv.ES (I:Inv X pins σ H s)(hH:H l=some (.lst xs)):xs.length<=sizeLine/\∃ (its:List iG) (n:Nat),Vals xs its/\xs.length=its.length/\s.heap.get? l=some {cls:=.type "list",data:=.seq its.toArray n}:=by obtain⟨z,its,n,r,e⟩:=I.hok l _ hH;exact⟨z,its,n,r,r.length,e⟩
theorem CN {n:Nat}(h:n<=sizeLine):Builtin.List.listTooLong n=false:=by unfold Builtin.List.listTooLong;exact decide_eq_false (by lia)
end
section
variable {X:Cx}
def rL:V->List V->Hp->VK->Prop:=λ x vs H Q=>∃ l xs y,x=.ref l/\vs=[y]/\H l=some (.lst xs)/\xs.length<sizeLine/\Q .non (upd H l (.lst (xs++[y])))
theorem o5:MtM X "list.append" rL:=by intro pins s σ H x vs v us Q I rx rv h;obtain⟨l,xs,y,rfl,rfl,hH,hz,q⟩:=h;cases rx;obtain⟨u,rfl,ru⟩:=rv.one;obtain⟨z,its,n,r,hl,e⟩:=I.ES hH;refine call_meets F.slot_list_append ⟨_,e,rfl⟩ F.entry_list_append (F.args_list_append_2 _ _) (PySem.list_append l its.toArray n u (by rw[aM];lia)) ⟨e,?_⟩;refine⟨.non,_,I.PJ (its':=its++[u]) hH e (by simp) (r.append (.cons ru .nil)) ?_,rfl,q⟩;rw[aT,bF];lia
def Mo:V->List V->Hp->VK->Prop:=λ x vs H Q=>∃ l b xs zs,x=.ref l/\vs=[.ref b]/\H l=some (.lst xs)/\H b=some (.lst zs)/\xs.length+zs.length<=sizeLine/\Q .non (upd H l (.lst (xs++zs)))
theorem RC:MtM X "list.extend" Mo:=by
 intro pins s σ H x vs v us Q I rx rv h;obtain⟨l,b,xs,zs,rfl,rfl,hH,hB,hz,q⟩:=h;cases rx;obtain⟨u,rfl,ru⟩:=rv.one;cases ru;obtain⟨z,its,n,r,hl,e⟩:=I.ES hH;obtain⟨z2,its2,n2,r2,hl2,e2⟩:=I.ES hB;have hsz:its.toArray.size+its2.toArray.size<=sizeLine:=by rw[aM,aM];lia
 have hlong:¬ (!its.toArray.isEmpty&&Builtin.List.listTooLong (its.toArray.size+its2.toArray.size))=true:=by rw[CN hsz,gL];exact aI
 refine call_meets F.slot_list_extend ⟨_,e,rfl⟩ F.entry_list_extend (F.args_list_extend_2 _ _)
  (AutoSeq1.list_extend_list_list_0 l its.toArray n b its2.toArray n2 hlong (by rw[aM];lia) (by lia)) ⟨e,e2,?_⟩
 refine⟨.non,_,I.PJ (its':=its++its2) hH e (by simp) (r.append r2) ?_,rfl,q⟩;rw[aT];lia
def ET:V->List V->Hp->VK->Prop:=λ x vs H Q=>∃ l xs i k y,x=.ref l/\vs=[.int i]/\H l=some (.lst xs)/\-(2 ^ 63)<=i/\i<2 ^ 63/\seqIndex? i xs.length=some k/\xs[k]?=some y/\Q y (upd H l (.lst (xs.eraseIdx k)))
theorem JC:MtM X "list.pop" ET:=by
 intro pins s σ H x vs v us Q I rx rv h;obtain⟨l,xs,i,k,y,rfl,rfl,hH,h1,h2,hk,hy,q⟩:=h;cases rx;obtain⟨u,rfl,ru⟩:=rv.one;obtain⟨t,rfl⟩:=ru;obtain⟨z,its,n,r,hl,e⟩:=I.ES hH;obtain⟨w,hw,rw'⟩:=r.get hy;refine call_meets F.slot_list_pop ⟨_,e,rfl⟩ F.entry_list_pop (F.args_list_pop_2 _ _)
  (MeetsSeq.list_pop_at l its.toArray n i t k w (fitsIndex_both h1 h2) (by rw[aM,<-hl];exact hk) (by rw[<-bU];exact hw) (by rw[aM];lia)) ⟨e,?_⟩
 refine⟨y,_,I.PJ (its':=its.eraseIdx k) hH e ?_ (r.eraseIdx k) ?_,rw',q⟩
 ·show its.toArray.eraseIdxIfInBounds k=(its.eraseIdx k).toArray;rw[List.eraseIdxIfInBounds_toArray]
 ·have:=Aq xs k;lia
def UQ:R2:=λ x y H Q=>∃ l b xs zs,x=.ref l/\y=.ref b/\H l=some (.lst xs)/\H b=some (.lst zs)/\xs.length+zs.length<=sizeLine/\∀ p,H p=none->Q (.ref p) (upd H p (.lst (xs++zs)))
theorem PK:OpR X (binaryOp .Add) UQ:=by
 intro pins s σ H x y v u Q I rx ry h;obtain⟨l,b,xs,zs,rfl,rfl,hH,hB,hz,q⟩:=h;cases rx;cases ry;obtain⟨z,its,n,r,hl,e⟩:=I.ES hH;obtain⟨z2,its2,n2,r2,hl2,e2⟩:=I.ES hB;refine PySem.P.add_list e e2 ?_ (by rw[aM,aM];lia);have ea:its.toArray++its2.toArray=(its++its2).toArray:=by simp
 rw[ea];exact⟨.ref _,_,I.RV (t':=s.toks) (r.append r2) (by rw[aT];lia),rfl,q _ I.fresh⟩
def Mp:R2:=λ x y H Q=>∃ l k xs,x=.ref l/\y=.int k/\H l=some (.lst xs)/\-(2 ^ 63)<=k/\k<2 ^ 63/\xs.length*k.toNat<=sizeLine /\
 ∀ p,H p=none->Q (.ref p) (upd H p (.lst (List.replicate k.toNat xs).flatten))
theorem len_rep {α:Type}(xs:List α)(k:Nat):(List.replicate k xs).flatten.length=k*xs.length:=by
 induction k with
 | zero=>simp
 | succ k ih=>rw[de,eG,aT,ih,g9,Nat.add_comm]
theorem Ba:OpR X (binaryOp .Mult) Mp:=by
 intro pins s σ H x y v u Q I rx ry h;obtain⟨l,k,xs,rfl,rfl,hH,h1,h2,hz,q⟩:=h;cases rx;obtain⟨t,rfl⟩:=ry;obtain⟨z,its,n,r,hl,e⟩:=I.ES hH;have hlen:its.toArray.size*k.toNat<=sizeLine:=by rw[aM,<-hl];exact hz
 have hcap:¬ its.toArray.size*k.toNat>(2 ^ 63-1) / 8:=by
  have:(sizeLine:Nat)<=(2 ^ 63-1) / 8:=by decide
  lia
 have hfit:¬ (!Builtin.List.listFitsIndex k)=true:=by rw[fitsIndex_both h1 h2];exact aI
 have hlong:¬ Builtin.List.listTooLong (its.toArray.size*k.toNat)=true:=by rw[CN hlen];exact aI
 have hnew:List.foldl (λ x1 x2=>x1++x2) #[] (List.replicate (if its.toArray.isEmpty=true then 0 else k.toNat) its.toArray)=(List.replicate k.toNat its).flatten.toArray:=by
  have f0:∀ m:Nat,List.foldl (λ x1 x2=>x1++x2) #[] (List.replicate m its.toArray)=(List.replicate m its).flatten.toArray:=λ m=>by have:=foldl_rep its m [];rw[gu]at this;exact this
  rw[f0];cases its with
  | nil=>simp
  | cons a r'=>rw[ah (by simp)]
 refine wpAny_binaryOp_repeat_ref (T:="list") (U:="int") (by decide) ⟨_,e,rfl⟩ (λ s'=>typeIs_int s' k t) noFill_list_mul F.fills_int_mul F.slot_int_rmul repeat_list F.slot_int_index.lookup
  (call_meets F.slot_int_rmul (typeIs_int s k t) F.entry_int_rmul (F.args_int_rmul_2 _ _) (int___rmul___int_list k t l its.toArray n)
   ⟨e,rfl,⟨_,e,rfl⟩,call_meets F.slot_list_mul ⟨_,e,rfl⟩ F.entry_list_mul (F.args_list_mul_2 _ _) (AutoListH.list___mul___list_int_3 l its.toArray n k t hfit hcap hlong) ⟨e,?_⟩⟩)
 rw[hnew];exact⟨.ref _,_,I.RV (t':=s.toks) (r.rep k.toNat) (by rw[len_rep,Nat.mul_comm];exact hz),rfl,q _ I.fresh⟩
end
section
variable {prog:Program}{w:World}{A:Around}{E:ir}{s:iH}
end
section
variable {X:Cx}
end
section
variable {κ:Type}[DecidableEq κ]
def nE (kvs:List (κ×V))(k:κ):iA V:=(kvs.find? λ kv=>decide (kv.1=k)).map (·.2)
def putK (kvs:List (κ×V))(k:κ)(v:V):List (κ×V) :=
 if (kvs.any λ kv=>decide (kv.1=k))=true then kvs.map (λ kv=>if kv.1=k then (kv.1,v) else kv) else kvs++[(k,v)]
theorem JD {k:κ}:nE ([]:List (κ×V)) k=none:=rfl
theorem tR {p:κ×V}{r:List (κ×V)}{k:κ}(e:p.1=k):nE (p::r) k=some p.2:=by simp[nE,eu,e]
theorem tS {p:κ×V}{r:List (κ×V)}{k:κ}(e:¬ p.1=k):nE (p::r) k=nE r k:=by simp[nE,eu,e]
theorem xU (k:κ):∀ kvs:List (κ×V),(kvs.any λ kv=>decide (kv.1=k))=(nE kvs k).isSome
 | []=>rfl
 | p::r=>by
  rw[List.any_cons];by_cases e:p.1=k
  ·simp only[tR e,decide_eq_true e,Bool.true_or,Option.isSome_some]
  ·rw[tS e,decide_eq_false e,Bool.false_or];exact xU k r
theorem qy (kvs:List (κ×V))(k:κ)(v:V):(putK kvs k v).length<=kvs.length+1:=by
 unfold putK;split
 ·rw[ag];lia
 ·rw[aT,aQ,cn];lia
theorem CO {kvs:List (κ×V)}{k:κ}(v:V)(h:nE kvs k=none):putK kvs k v=kvs++[(k,v)]:=by unfold putK;rw[xU,h];exact ah (by decide)
theorem zN.o6 {o:iA V}{u:iA iG}(r:zN o u):o.isSome=u.isSome:=by
 cases o with
 | none=>cases u with
  | none=>rfl
  | some _=>exact(show False from r).elim
 | some _=>cases u with
  | none=>exact(show False from r).elim
  | some _=>rfl
theorem KV.val {kvs:List (κ×V)}{vs:List (κ×iG)}(r:KV kvs vs)(k:κ):zN (nE kvs k) (valueAt vs k):=by
 unfold KV at r;induction r with
 | nil=>exact True.intro
 | @cons p q ps qs h t ih =>
  obtain⟨h1,h2⟩:=h;by_cases e:p.1=k
  ·have e':q.1=k:=h1.symm.trans e
   have b:valueAt (q::qs) k=some q.2:=by simp[valueAt,eu,e']
   rw[tR e,b];exact h2
  ·have e':¬ q.1=k:=λ z=>e (h1.trans z)
   have b:valueAt (q::qs) k=valueAt qs k:=by simp[valueAt,eu,e']
   rw[tS e,b];exact ih
theorem KV.any {kvs:List (κ×V)}{vs:List (κ×iG)}(r:KV kvs vs)(k:κ):(kvs.any λ kv=>decide (kv.1=k))=vs.any λ kv=>decide (kv.1=k):=by
 unfold KV at r;induction r with
 | nil=>rfl
 | cons h t ih=>rw[List.any_cons,List.any_cons,ih,h.1]
theorem KV.PL {kvs:List (κ×V)}{vs:List (κ×iG)}(r:KV kvs vs)(k:κ){y:V}{u:iG}(ry:RelV y u) :
  KV (kvs.map λ kv=>if kv.1=k then (kv.1,y) else kv) (vs.map λ kv=>if kv.1=k then (kv.1,u) else kv):=by
 unfold KV at r ⊢;induction r with
 | nil=>exact .nil
 | @cons p q ps qs h t ih =>
  rw[aq,aq];refine .cons ?_ ih;obtain⟨h1,h2⟩:=h;by_cases e:p.1=k
  ·rw[af e,af (h1.symm.trans e)];exact⟨h1,ry⟩
  ·rw[ah e,ah (λ z=>e (h1.trans z))];exact⟨h1,h2⟩
theorem KV.put {kvs:List (κ×V)}{vs:List (κ×iG)}(r:KV kvs vs)(k:κ){y:V}{u:iG}(ry:RelV y u):KV (putK kvs k y) (stored vs k u):=by
 unfold putK stored;rw[r.any k];by_cases e:(vs.any λ kv=>decide (kv.1=k))=true
 ·rw[af e,af e];exact r.PL k ry
 ·rw[ah e,ah e];exact Paired.snoc r ⟨rfl,ry⟩
theorem KV.length {kvs:List (κ×V)}{vs:List (κ×iG)}(r:KV kvs vs):kvs.length=vs.length:=f_ r
end
theorem Ar {P:Program}{w:World}{k:Key}{u:iG}(r:RelV (kV k) u):(ky P w).is k u=true:=by
 cases k with
 | inl i=>obtain⟨t,e⟩:=(show ∃ t,u=Value.int i t from r);subst e;exact Cy P w i t
 | inr x=>obtain⟨t,e⟩:=(show ∃ t,u=Value.str x t from r);subst e;exact Cz P w x t
theorem As {P:Program}{w:World}:∀ {ks:List Key} {us:List iG},Vals (ks.map kV) us->ItemsAre (ky P w) ks us
 | [],_,r=>by rw[dH]at r;cases r;exact .nil
 | k::ks,_,r=>by
  rw[aq]at r;cases r with
  | cons h t=>exact .cons (Ar h) (As t)
abbrev KT (H:Hp):List (List Key×V)->List (List Key×Addr×iG)->Prop:=Paired λ p q=>p.1=q.1/\H q.2.1=some (.tup (p.1.map kV))/\RelV p.2 q.2.2
theorem KT.val {H:Hp}{kvs:List (List Key×V)}{xs:List (List Key×Addr×iG)}(r:KT H kvs xs)(k:List Key):zN (nE kvs k) ((atKey xs k).map (·.2)):=by
 induction r with
 | nil=>exact True.intro
 | @cons p q ps qs h t ih =>
  obtain⟨h1,_,h2⟩:=h;by_cases e:p.1=k
  ·have e':q.1=k:=h1.symm.trans e
   have b:atKey (q::qs) k=some q.2:=by simp[atKey,eu,e']
   rw[tR e,b];exact h2
  ·have e':¬ q.1=k:=λ z=>e (h1.trans z)
   have b:atKey (q::qs) k=atKey qs k:=by simp[atKey,eu,e']
   rw[tS e,b];exact ih
theorem KT.PL {H:Hp}{kvs:List (List Key×V)}{xs:List (List Key×Addr×iG)}(r:KT H kvs xs)(k:List Key){y:V}{u:iG}(ry:RelV y u) :
  KT H (kvs.map λ kv=>if kv.1=k then (kv.1,y) else kv) (xs.map (putAt k u)):=by
 induction r with
 | nil=>exact .nil
 | @cons p q ps qs h t ih =>
  rw[aq,aq];refine .cons ?_ ih;obtain⟨h1,h2,h3⟩:=h;unfold putAt;by_cases e:p.1=k
  ·rw[af e,af (h1.symm.trans e)];exact⟨h1,h2,ry⟩
  ·rw[ah e,ah (λ z=>e (h1.trans z))];exact⟨h1,h2,h3⟩
theorem KT.put {H:Hp}{kvs:List (List Key×V)}{xs:List (List Key×Addr×iG)}(r:KT H kvs xs)(k:List Key){b:Addr}{y:V}{u:iG}(hb:H b=some (.tup (k.map kV)))(ry:RelV y u) :
  KT H (putK kvs k y) (storedH xs k b u):=by
 have e:(kvs.any λ kv=>decide (kv.1=k))=(atKey xs k).isSome:=by rw[xU,(r.val k).o6,gT]
 unfold putK storedH;rw[e];by_cases q:(atKey xs k).isSome=true
 ·rw[af q,af q];exact r.PL k ry
 ·rw[ah q,ah q];exact Paired.snoc r ⟨rfl,hb,ry⟩
theorem KT.keeps {H H':Hp}{kvs:List (List Key×V)}{xs:List (List Key×Addr×iG)}(r:KT H kvs xs)(ht:∀ b ys,H b=some (.tup ys)->H' b=some (.tup ys)):KT H' kvs xs :=
 Paired.Mc r λ _ _ z=>⟨z.1,ht _ _ z.2.1,z.2.2⟩
section
variable {P:Program}{w:World}{H:Hp}{h:Heap}{a:Addr}
theorem Om {u:HO}(ok:HOk P w H h)(e:Rd H a u):kR P w H h a u:=e.ok ok
theorem Au {kvs:List (Key×V)}(ok:HOk P w H h)(e:Rd H a (.dK kvs)):kvs.length<=sizeLine/\(a==sysModules)=false/\∃ vs,KV kvs vs/\h.DictOf (ky P w) a vs :=
 show kR P w H h a (.dK kvs) from Om ok e
theorem Oo {kvs:List (Key×V)}(ok:HOk P w H h)(e:H a=some (.dK kvs)):kvs.length<=sizeLine/\(a==sysModules)=false/\∃ vs,KV kvs vs/\h.DictOf (ky P w) a vs:=Au ok (.inl e)
theorem xV {ks:List Key}(ok:HOk P w H h)(e:H a=some (.tup (ks.map kV))):(tupleKind (ky P w)).is h ks a:=by obtain⟨_,its,r,o,h1,h2,n,h3⟩:=(show kR P w H h a (.tup (ks.map kV)) from ok a _ e);exact⟨o,its.toArray,n,h1,h2,h3,by simpa using As r⟩
theorem CP {kvs:List (List Key×V)}(ok:HOk P w H h)(e:Rd H a (.dT kvs)):kvs.length<=sizeLine/\(a==sysModules)=false /\
  ∃ xs,KT H kvs xs/\h.DictOfH (tupleKind (ky P w)) a xs:=by
 obtain⟨z,y,xs,r,o,es,ep,h1,h2,h3,h4,h5⟩:=(show kR P w H h a (.dT kvs) from Om ok e);refine⟨z,y,xs,r,o,es,ep,h1,h2,h3,h4,λ x hx=>?_,h5⟩;have all:∀ {l:List (List Key×V)} {m:List (List Key×Addr×iG)},KT H l m->∀ x∈m,(tupleKind (ky P w)).is h x.1 x.2.1:=by
  intro l m q;induction q with
  | nil=>intro x hx;exact nomatch hx
  | @cons p q ps qs hq t ih =>
   intro x hx;rcases aN.mp hx with e | hx
   ·subst e;exact xV ok (by rw[<-hq.1];exact hq.2.1)
   ·exact ih x hx
 exact all r x hx
theorem RW {kvs:List (List Key×V)}(ok:HOk P w H h)(e:H a=some (.dT kvs)):kvs.length<=sizeLine/\(a==sysModules)=false /\
  ∃ xs,KT H kvs xs/\h.DictOfH (tupleKind (ky P w)) a xs:=CP ok (.inl e)
end
def tT (H:Hp)(a:Addr)(y:V)(r:iA V):Prop :=
 (∃ kvs k,Rd H a (.dK kvs)/\y=kV k/\r=nE kvs k)\/∃ kvs k b,Rd H a (.dT kvs)/\y=.ref b/\H b=some (.tup (k.map kV))/\r=nE kvs k
def JE (H:Hp)(a:Addr)(y v:V)(H':Hp):Prop :=
 (∃ kvs k,H a=some (.dK kvs)/\y=kV k/\kvs.length<sizeLine/\H'=upd H a (.dK (putK kvs k v))) \/
 ∃ kvs k b,H a=some (.dT kvs)/\y=.ref b/\H b=some (.tup (k.map kV))/\kvs.length<sizeLine/\H'=upd H a (.dT (putK kvs k v))
theorem tT.k {H:Hp}{a:Addr}{kvs:List (Key×V)}{k:Key}(e:H a=some (.dK kvs)):tT H a (kV k) (nE kvs k):=.inl ⟨kvs,k,.inl e,rfl,rfl⟩
theorem JE.k {H:Hp}{a:Addr}{kvs:List (Key×V)}{k:Key}{v:V}(e:H a=some (.dK kvs))(hl:kvs.length<sizeLine):JE H a (kV k) v (upd H a (.dK (putK kvs k v))):=.inl ⟨kvs,k,e,rfl,hl,rfl⟩
section
variable {X:Cx}{pins:iJ}{σ:St}{H:Hp}{s:iH}{a:Addr}{y v:V}{u r:iG}{o:iA V}{A:Around}{E:ir}
theorem Inv.big (I:Inv X pins σ H s):sysModules<s.heap.objs.size:=by have h:mainGlobals<s.heap.objs.size:=(I.mod.glob.keeps I.bk).lt;exact Nat.lt_trans (by decide) h
theorem HX {Q:ir}(hu:A.units+1<cLine)(I:Inv X pins σ H s)(g:tT H a y (some v))(ry:RelV y u)(h:∀ w' s',Inv X pins σ H s'->RelV v w'->Q w' s') :
  wpAny (model X.prog X.w) A (getItem (.ref a) u) Q E s:=by
 rcases g with⟨kvs,k,e,ey,l⟩ | ⟨kvs,k,b,e,ey,eb,l⟩
 ·subst ey;obtain⟨z,hd,vs,rel,dd⟩:=Au I.hok e;obtain⟨w',hw,rw'⟩:=zN.some_of (v:=v) (o:=valueAt vs k) (by rw[l];exact rel.val k);exact wpAny_getItem_of (Ar ry) dd.mapOf hw (h w' _ (I.tok _) rw')
 ·subst ey;cases (show u=Value.ref b from ry);obtain⟨z,hd,xs,rel,dd⟩:=CP I.hok e;obtain⟨w',hw,rw'⟩:=zN.some_of (v:=v) (o:=(atKey xs k).map (·.2)) (by rw[l];exact rel.val k);obtain⟨p,hp,hp2⟩:=Option.map_eq_some_iff.mp hw;refine wpAny_getItem_heap (tupleKind_room_in1 hu) (xV I.hok eb) dd hp ?_;rw[hp2];exact h w' _ (I.tok _) rw'
theorem UR {Q:ir}(hu:A.units+1<cLine)(I:Inv X pins σ H s)(g:tT H a y o)(ry:RelV y u)(h:∀ s',Inv X pins σ H s'->Q (.bool o.isSome) s') :
  wpAny (model X.prog X.w) A (compareOp .In u (.ref a)) Q E s:=by
 rcases g with⟨kvs,k,e,ey,l⟩ | ⟨kvs,k,b,e,ey,eb,l⟩
 ·subst ey;obtain⟨z,hd,vs,rel,dd⟩:=Au I.hok e;refine wpAny_in_of (Ar ry) hd dd.mapOf ?_;rw[<-(rel.val k).o6,<-l];exact h _ (I.tok _)
 ·subst ey;cases (show u=Value.ref b from ry);obtain⟨z,hd,xs,rel,dd⟩:=CP I.hok e;refine wpAny_in_heap (tupleKind_room_in1 hu) (xV I.hok eb) hd dd ?_;have q:=(rel.val k).o6;rw[gT]at q;rw[<-q,<-l];exact h _ (I.tok _)
theorem Mq {Q:ir}(hu:A.units+1<cLine)(I:Inv X pins σ H s)(g:tT H a y o)(ry:RelV y u)(h:∀ s',Inv X pins σ H s'->Q (.bool (!o.isSome)) s') :
  wpAny (model X.prog X.w) A (compareOp .NotIn u (.ref a)) Q E s:=by
 rcases g with⟨kvs,k,e,ey,l⟩ | ⟨kvs,k,b,e,ey,eb,l⟩
 ·subst ey;obtain⟨z,hd,vs,rel,dd⟩:=Au I.hok e;refine wpAny_notIn_of (Ar ry) hd dd.mapOf ?_;rw[<-(rel.val k).o6,<-l];exact h _ (I.tok _)
 ·subst ey;cases (show u=Value.ref b from ry);obtain⟨z,hd,xs,rel,dd⟩:=CP I.hok e;refine wpAny_notIn_heap (tupleKind_room_in1 hu) (xV I.hok eb) hd dd ?_;have q:=(rel.val k).o6;rw[gT]at q;rw[<-q,<-l];exact h _ (I.tok _)
theorem Bb {h':Heap}{t':Nat}{ob:HO}(I:Inv X pins σ H s)(mu:Mut (H a))(hs:Heap.SameBut a s.heap h')(he:∃ q,h'.get? a=some q)(new:kR X.prog X.w (upd H a ob) h' a ob) :
  Inv X pins σ (upd H a ob) {s with heap:=h',toks:=t'} :=
 I.write (x:=a) (e:=a) mu (.inl rfl) (λ b q hb z=>(hs.2 b hb).trans z) he new
theorem JF {P:Program}{w:World}{H':Hp}{h':Heap}{kvs:List (Key×V)}{vs:List (Key×iG)}(z:kvs.length<=sizeLine)(hd:(a==sysModules)=false)(rel:KV kvs vs)(dd:h'.DictOf (ky P w) a vs) :
  kR P w H' h' a (.dK kvs):=⟨z,hd,vs,rel,dd⟩
theorem HY {H':Hp}{Q:Unit->iH->Prop}(hu:A.units+1<cLine)(I:Inv X pins σ H s)(g:JE H a y v H')(ry:RelV y u)(rv:RelV v r)(h:∀ s',Inv X pins σ H' s'->Q () s') :
  wpAny (model X.prog X.w) A (setItem (.ref a) u r) Q E s:=by
 rcases g with⟨kvs,k,e,ey,l,eH⟩ | ⟨kvs,k,b,e,ey,eb,l,eH⟩
 ·subst ey eH
  obtain⟨z,hd,vs,rel,dd⟩:=Oo I.hok e;have hz:vs.length<=sizeLine:=by rw[<-rel.length];exact z
  have hl:(putK kvs k v).length<=sizeLine:=by have:=qy kvs k v;lia
  refine wpAny_setItem_pairs (hsz:=hz) (Ar ry) dd λ h' dd' hs=>h _ ?_;have he:∃ q,h'.get? a=some q:=let ⟨q,_,_,hq,_⟩:=dd';⟨q,hq⟩;exact Bb I (by rw[e];exact True.intro) hs he (JF hl hd (rel.put k rv) dd')
 ·subst ey eH
  cases (show u=Value.ref b from ry);obtain⟨z,hd,xs,rel,dd⟩:=RW I.hok e;have hz:xs.length<=sizeLine:=by rw[<-f_ rel];exact z
  have hl:(putK kvs k v).length<=sizeLine:=by have:=qy kvs k v;lia
  refine wpAny_setItem_heap (hsz:=hz) (tupleKind_room_in1 hu) (xV I.hok eb) dd λ h' dd' hs=>h _ ?_;obtain⟨q,es,ep,hq,h2,h3,h4,_,h5⟩:=dd';refine Bb I (by rw[e];exact True.intro) hs ⟨q,hq⟩ ⟨hl,hd,_,(rel.put k eb rv).keeps λ c ys ec=>?_,q,es,ep,hq,h2,h3,h4,h5⟩;rw[ja (RG ec e (λ z=>nomatch z))];exact ec
end
section
variable {X:Cx}{pins:iJ}{σ:St}{H:Hp}{s:iH}{a:Addr}{kvs:List (Key×V)}{k:Key}{u:iG}{A:Around}{E:ir}
theorem RX {Q:ir}(I:Inv X pins σ H s)(e:Rd H a (.dK kvs))(h:∀ t s',Inv X pins σ H s'->Q (.int kvs.length t) s'):wpAny (model X.prog X.w) A (call (.builtin "len") [.ref a]) Q E s:=by obtain⟨z,hd,vs,rel,dd⟩:=Au I.hok e;refine call_len_dict hd dd (by rw[<-rel.length];rw[sizeLine_eq]at z;lia) ?_;rw[<-rel.length];exact h _ _ (I.tok _)
end
def PM (i:Expr):Prop:=∀ ov iv,subscripted i false ov iv=operate [ov,iv] (getItem ov iv)
theorem Mr {prog:Program}{w:World}{A:Around}{E:ir}{s:iH}{env:Env}{value slice:Expr}{pos:Pos}{T id:String}{Q:ir}
  (hl:typeLookup (.type T) "__getitem__"=pure (some (.builtin id))) (hs:PM slice)
  (h:wpAny (model prog w) A (eval value env) (λ o s₁=>wpAny (model prog w) A (eval slice env) (λ i s₂=>s₂.TypeIs o T/\wpAny (model prog w) A (getItem o i) Q E s₂) E s₁) E s) :
  wpAny (model prog w) A (eval (.Subscript value slice pos) env) Q E s:=by
 refine Subscript_ (fh h (λ o s₁ h₁=>fh h₁ (λ i s₂ h₂=>?_) λ _ _ x=>x) λ _ _ x=>x);obtain⟨hT,h₂⟩:=h₂;unfold subscriptTail;refine aa ?_;rw[getitemInPython_of_ne hT.not_modules];refine aa (wpAny_specialOf hT hl ?_);have fin:wpAny (model prog w) A (subscripted slice false o i) (λ r s₃=>wpAny (model prog w) A (letTemporaryGo value o r>>=λ _=>pure r) Q E s₃) E s₂:=by rw[hs o i];exact wpAny_operating (fh h₂ (λ r s₃ h₃=>aa (wpAny_letTemporaryGo (ao h₃))) λ _ _ x=>x)
 first
  | exact ao (aa fin)
  | exact aa (ao (aa fin))
  | exact aa fin
theorem CQ {X:Cx}{pins:iJ}{σ:St}{H:Hp}{s:iH}{a:Addr}{y:V}{o:iA V}(I:Inv X pins σ H s)(g:tT H a y o):s.TypeIs (.ref a) "dict":=by
 rcases g with⟨kvs,k,e,_,_⟩ | ⟨kvs,k,b,e,_,_,_⟩
 ·obtain⟨_,_,vs,_,dd⟩:=Au I.hok e;exact dd.typeIs
 ·obtain⟨_,_,xs,_,dd⟩:=CP I.hok e;exact dd.typeIs
def Oq (td ty:TE):TE:=λ σ H Q=>td σ H λ x H1=>ty σ H1 λ y H2=>∃ a v,x=.ref a/\tT H2 a y (some v)/\Q v H2
def RY (ty td:TE):TE:=λ σ H Q=>ty σ H λ y H1=>td σ H1 λ x H2=>∃ a o,x=.ref a/\tT H2 a y o/\Q (.bl o.isSome) H2
def Gm (ty td:TE):TE:=λ σ H Q=>ty σ H λ y H1=>td σ H1 λ x H2=>∃ a o,x=.ref a/\tT H2 a y o/\Q (.bl (!o.isSome)) H2
def Ot (td ty tv:TE):TS:=λ D σ H=>tv σ H λ v H1=>td σ H1 λ x H2=>ty σ H2 λ y H3=>∃ a H4,x=.ref a/\JE H3 a y v H4/\D.nx σ H4
section
variable {X:Cx}{o i e value:Expr}{pos pos' tpos:Pos}{td ty tv:TE}
theorem Gn (hu:X.A.units+1<cLine)(ho:PE X o td)(hi:PE X i ty)(hs:PM i):PE X (.Subscript o i pos) (Oq td ty):=by intro pins s σ H Q I h;refine Mr PySem.F.slot_dict_getitem.lookup hs (thn (ho pins s σ H _ I h) λ u s1 ⟨x,H1,I1,rx,q1⟩=>thn (hi pins s1 σ H1 _ I1 q1) λ iv s2 ⟨y,H2,I2,ry,a,v,ex,g,q2⟩=>?_);subst ex;obtain rfl:u=Value.ref a:=rx;exact⟨CQ I2 g,HX hu I2 g ry λ w' s3 I3 rw'=>⟨v,H2,I3,rw',q2⟩⟩
theorem PN (hu:X.A.units+1<cLine)(hi:PE X i ty)(ho:PE X o td):PC X .In i o (RY ty td):=by intro pins s σ H Q I h;refine thn (hi pins s σ H _ I h) λ iv s1 ⟨y,H1,I1,ry,q1⟩=>thn (ho pins s1 σ H1 _ I1 q1) λ u s2 ⟨x,H2,I2,rx,a,ov,ex,g,q2⟩=>?_;subst ex;obtain rfl:u=Value.ref a:=rx;exact UR hu I2 g ry λ s3 I3=>⟨.bl ov.isSome,H2,I3,rfl,q2⟩
theorem HZ (hu:X.A.units+1<cLine)(hi:PE X i ty)(ho:PE X o td):PC X .NotIn i o (Gm ty td):=by intro pins s σ H Q I h;refine thn (hi pins s σ H _ I h) λ iv s1 ⟨y,H1,I1,ry,q1⟩=>thn (ho pins s1 σ H1 _ I1 q1) λ u s2 ⟨x,H2,I2,rx,a,ov,ex,g,q2⟩=>?_;subst ex;obtain rfl:u=Value.ref a:=rx;exact Mq hu I2 g ry λ s3 I3=>⟨.bl (!ov.isSome),H2,I3,rfl,q2⟩
theorem Ms (hu:X.A.units+1<cLine)(ho:PE X o td)(hi:PE X i ty)(hv:PE X value tv)(hs:swapsWith value (some (.Subscript o i pos')) pos.line X.env=pure false) :
  PS X (.Assign [.Subscript o i pos'] value pos) (Ot td ty tv):=by
 intro pins s σ H D I h;refine wpAny_Assign_Subscript (thn (hv pins s σ H _ I h) λ r s1 ⟨v,H1,I1,rv,q1⟩=>thn (ho pins s1 σ H1 _ I1 q1) λ u s2 ⟨x,H2,I2,rx,q2⟩=>thn (hi pins s2 σ H2 _ I2 q2) λ iv s3 ⟨y,H3,I3,ry,a,H4,ex,g,q3⟩=>?_) hs;subst ex;obtain rfl:u=Value.ref a:=rx;exact HY hu I3 g ry rv λ s4 I4=>⟨σ,H4,I4,q3⟩
end
theorem JG {P:Program}{w:World}{H:Hp}(h:Heap)(hb:sysModules<h.objs.size):kR P w H (h.push {cls:=.type "dict",data:=.dict #[]}) h.objs.size (.dK []) :=
 ⟨bg _,beq_eq_false_iff_ne.mpr (aX (bw hb)),[],.nil,Heap.DictOf.new h⟩
section
variable {X:Cx}{pos:Pos}
end
def EU:List (TE×TE)->St->Hp->(List (V×V)->Hp->Prop)->Prop
 | [],_,H,Q=>Q [] H
 | (tk,tv)::r,σ,H,Q=>tk σ H λ x H1=>tv σ H1 λ y H2=>EU r σ H2 λ ps H3=>Q ((x,y)::ps) H3
abbrev VV:List (V×V)->List (iG×iG)->Prop:=Paired λ p q=>RelV p.1 q.1/\RelV p.2 q.2
def PPs (X:Cx)(pos:Pos)(keys:List (iA Expr))(values:List Expr)(trs:List (TE×TE)):Prop :=
 ∀ (pins:iJ) (s:iH) (σ:St) (H:Hp) (Q:List (V×V)->Hp->Prop),Inv X pins σ H s->EU trs σ H Q ->
  wpAny (model X.prog X.w) X.A (evalPairs (pairTrees keys values X.env pos)) (λ vs s'=>∃ ps H',Inv X pins σ H' s'/\VV ps vs/\Q ps H') X.xe s
theorem Bc {X:Cx}{pos:Pos}:PPs X pos [] [] []:=λ pins s σ H Q I h=>pairTrees_nil_walk ⟨[],H,I,.nil,h⟩
theorem tU {X:Cx}{pos:Pos}{k v:Expr}{ks:List (iA Expr)}{vs:List Expr}{tk tv:TE}{trs:List (TE×TE)}(hk:PE X k tk)(hv:PE X v tv)(hr:PPs X pos ks vs trs) :
  PPs X pos (some k::ks) (v::vs) ((tk,tv)::trs):=λ pins s σ H Q I h =>
 pairTrees_cons_walk (thn (hk pins s σ H _ I h) λ u s1 ⟨x,H1,I1,rx,q1⟩=>thn (hv pins s1 σ H1 _ I1 q1) λ w2 s2 ⟨y,H2,I2,ry,q2⟩ =>thn (hr pins s2 σ H2 _ I2 q2) λ ws s3 ⟨ps,H3,I3,rel,q3⟩=>⟨(x,y)::ps,H3,I3,.cons ⟨rx,ry⟩ rel,q3⟩)
def sJ (kvs more:List (Key×V)):List (Key×V):=more.foldl (λ acc kv=>putK acc kv.1 kv.2) kvs
theorem KV.merge:∀ {more:List (Key×V)} {rs:List (Key×iG)} {kvs:List (Key×V)} {vs:List (Key×iG)},KV more rs->KV kvs vs->KV (sJ kvs more) (merged vs rs):=by
 intro more rs kvs vs r;unfold KV at r;induction r generalizing kvs vs with
 | nil=>intro q;exact q
 | @cons p q ps qs h t ih =>
  intro r0;have e:KV (putK kvs p.1 p.2) (stored vs q.1 q.2):=by have:=r0.put p.1 h.2;rw[<-h.1];exact this
  exact ih e
theorem sf:∀ (more kvs:List (Key×V)),(sJ kvs more).length<=kvs.length+more.length
 | [],kvs=>by show kvs.length<=kvs.length+0;lia
 | p::r,kvs=>by have h1:=sf r (putK kvs p.1 p.2);have h2:=qy kvs p.1 p.2;show(sJ (putK kvs p.1 p.2) r).length<=_;rw[aQ];lia
theorem xW {P:Program}{w:World}:∀ {kvs:List (Key×V)} {ws:List (iG×iG)},VV (kvs.map λ kv=>(kV kv.1,kv.2)) ws->∃ rs,Carries (ky P w) ws rs/\KV kvs rs
 | [],_,r=>by rw[dH]at r;cases r;exact⟨[],True.intro,.nil⟩
 | p::kvs,_,r=>by
  rw[aq]at r;cases r with
  | @cons a b as bs h t =>obtain⟨rs,c,q⟩:=xW (P:=P) (w:=w) t;obtain⟨b1,b2⟩:=b;exact⟨(p.1,b2)::rs,⟨Ar h.1,rfl,c⟩,.cons ⟨rfl,h.2⟩ q⟩
def Ou (trs:List (TE×TE)):TE:=λ σ H Q=>∀ p,H p=none->EU trs σ (upd H p (.dK [])) λ ps H2=>H2 p=some (.dK [])/\∃ kvs:List (Key×V),ps=kvs.map (λ kv=>(kV kv.1,kv.2))/\kvs.length<=15/\Q (.ref p) (upd H2 p (.dK (sJ [] kvs)))
theorem Bd {X:Cx}{pos:Pos}{keys:List (iA Expr)}{values:List Expr}{trs:List (TE×TE)}(h:PPs X pos keys values trs)(hall:keys.all (·.isSome)=true)(hl:keys.length=values.length)(h0:keys≠[])
  (h15:keys.length<=15):PE X (.Dict keys values pos) (Ou trs):=by
 intro pins s σ H Q I q;have hn:=I.hok.fresh (ak s.heap.objs.size);have I1:=I.laid (a:=s.heap.objs.size) (o:=.dK []) (h':=s.heap.push {cls:=.type "dict",data:=.dict #[]}) (t':=s.toks) (λ _ _ q=>ai _ q) (ak _) (JG s.heap I.big);refine wpAny_Dict_walk (knd:=ky X.prog X.w) hall hl h0 h15 (thn (h pins _ σ _ _ I1 (q _ hn)) λ ws s2 ⟨ps,H2,I2,rel,e,kvs,ep,lk,q2⟩=>?_);subst ep;obtain⟨rs,c,rk⟩:=xW (P:=X.prog) (w:=X.w) rel;obtain⟨z,hd,vs0,r0,dd⟩:=Oo I2.hok e;cases r0;refine⟨rs,c,dd,λ h' dd' hs=>⟨.ref s.heap.objs.size,_,?_,rfl,q2⟩⟩;have hz:(sJ [] kvs).length<=sizeLine:=by have h1:=sf kvs [];rw[cn]at h1;rw[sizeLine_eq];lia
 have he:∃ q,h'.get? s.heap.objs.size=some q:=let ⟨q,_,_,hq,_⟩:=dd';⟨q,hq⟩;exact Bb I2 (by rw[e];exact True.intro) hs he (JF hz hd (rk.merge .nil) dd')
structure M1 (X:Cx)(o:Expr)(m:Str)(apos:Pos)(e:Expr)(cpos:Pos):Prop where
 base:attributeBase o m X.env (eval o X.env)=eval o X.env
 few:((backTo cpos (starEach [e] X.env)).all (λ x=>!x.1)&&(backToKw cpos (keywordEach [] X.env)).all (λ x=>x.1.isSome)
  && decide (([e]:List Expr).length+([]:List Keyword).length+(if ([]:List Keyword).isEmpty then 0 else 1)<30))=true
 line:(apos.endLine==cpos.line)=true
 trees:backTo cpos (starEach [e] X.env)=[(false,eval e X.env)]
structure M2 (X:Cx)(o:Expr)(m:Str)(apos:Pos)(e f:Expr)(cpos:Pos):Prop where
 base:attributeBase o m X.env (eval o X.env)=eval o X.env
 few:((backTo cpos (starEach [e,f] X.env)).all (λ x=>!x.1)&&(backToKw cpos (keywordEach [] X.env)).all (λ x=>x.1.isSome)
  && decide (([e,f]:List Expr).length+([]:List Keyword).length+(if ([]:List Keyword).isEmpty then 0 else 1)<30))=true
 line:(apos.endLine==cpos.line)=true
 trees:backTo cpos (starEach [e,f] X.env)=[(false,eval e X.env),(false,eval f X.env)]
section
variable {X:Cx}{pins:iJ}{σ:St}{H:Hp}{s:iH}{a:Addr}{y d:V}{u r:iG}{o:iA V}{A:Around}{E:ir}
end
section
variable {X:Cx}{o e f:Expr}{apos cpos:Pos}{td ty tx:TE}
end
section
variable {X:Cx}{pins:iJ}{σ:St}{H:Hp}{s:iH}{a:Addr}{kvs:List (Key×V)}{A:Around}{E:ir}
end
section
variable {X:Cx}{pins:iJ}{σ:St}{H:Hp}{s:iH}{a:Addr}{y:V}{u:iG}{A:Around}{E:ir}
end
end L2
namespace Att
open PySem PySem.W PySem.Calls PyProof.Rows
theorem wY {P:Params}{h:Heap}:∀ (ns:List Int) (vs:List iG),WellAll P h vs (ns.map WData.int)->IntsAre vs ns:=by
 intro ns;induction ns with
 | nil =>intro vs w;rw[dH]at w;cases w;exact .nil
 | cons n ns ih =>
  intro vs w;rw[aq]at w;cases w with
  | cons a b =>cases a;exact .cons _ _ (ih _ b)
theorem Av {l:OpenLaw}{n:Nat}(hn:l.most=some n){P:Params}{h:Heap}{args:List WData}{vals:List iG}
  (hpre:l.row.toRowW.claim.pre args=true) (hwl:WellAll P h vals args) :
  ∃ a vs ns,vals=[Value.ref a]/\args=[WData.list (ns.map WData.int)]/\h.get? a=some {cls:=.type "list",data:=.seq vs.toArray}/\IntsAre vs ns/\ns.length<=n:=by
 have hsh:WShape.hasAll [] args [.list .int]=true:=(pre_splitW hpre).1;have hc:l.pre.holds [] {args:=args}=true:=(pre_splitW hpre).2;obtain⟨d,r,rfl,h1,h2⟩:=hasAllW_cons hsh;obtain rfl:=hasAllW_nil h2;obtain⟨xs,rfl,h3⟩:=hasW_list h1;obtain⟨ns,rfl⟩:=items_int h3;have hlen:ns.length<=n:=by
  unfold OpenLaw.pre at hc;have h4:(WTm.not (.lt (.lit (.int (n:Int))) (.len (.arg 0)))).holds [] {args:=[.list (ns.map .int)]}=true:=by have h4:=(holds_andW hc).1;rw[hn]at h4;exact h4
  have h5:=condW_of h4 (w_not (w_lt w_lit (w_len_list (w_arg rfl))));rw[ag]at h5;refine fX λ q=>?_;have q':(n:Int)<((ns.length:Nat):Int):=by lia
  first
   | (rw[decide_eq_true q']at h5;exact absurd h5 (by decide))
   | (simp at h5;lia)
 cases hwl with
 | cons w1 w2 =>
  cases w2;cases w1 with
  | list ho hall=>exact⟨_,_,ns,rfl,rfl,ho,wY ns _ hall,hlen⟩
theorem Aw (l:OpenLaw)(args:List WData):l.row.toRowW.claim.post args (.bool true) args=true :=
 postW_of (r:=l.row.toRowW) (X:=(true==true))
  (show WShape.has [] (.bool true) .bool=true by first | rfl | decide | simp[WShape.has,WShape.arms,WShape.armsAll])
  (show(WTm.eq .res (.lit (.bool true))).value [] {args:=args,res:=some (.bool true),after:=args}=some (.bool (true==true)) from w_eq_bool (w_res rfl) w_lit) rfl
theorem attach {l:OpenLaw}{n:Nat}{q:Program}{loose:List Str}{XP:(Str->iA iG)->Heap->Prop}{YP:World->Heap->Prop}{d:DefRec}{x:Str}
  (hn:l.most=some n) (hdf:d.params.defaults=[])
  (hbind:∀ pm cd doc v:iG,bindArgs (docDef d.name d.params d.body d.scope pm cd doc) ⟨[v],[]⟩=pure [(x,v)])
  (hx:d.scope.names.lookup x=some .local\/d.scope.names.lookup x=some .cell)
  (hk:d.scope.kind=.function) (hco:d.scope.isCoroutine=false) (hgen:d.scope.isGenerator=false)
  (body:∀ (w:World) (s₀ s₁ s:iH) (mg mb:iq) (fa:Addr) (o:Obj) (pm cd doc:iG) (a:Addr) (vs:List iG) (ns:List Int),
   Ground q loose [] XP w s₀ mg mb s₁.heap->YP w s₁.heap ->
   s₁.heap.get? fa=some o->o.data=.func (docDef d.name d.params d.body d.scope pm cd doc)->s₁.heap.CodeRec cd d.name->mg d.name=some (.ref fa) ->
   s₁.heap.get? a=some {cls:=.type "list",data:=.seq vs.toArray}->IntsAre vs ns->ns.length<=n ->
   s.gens=#[]->s.os=s₁.os ->
   Fr s₁.heap s₁.heap.objs.size s.heap (bindL (envOfC d.name d.scope s₁.heap.objs.size fa cd).kindOf [(x,.ref a)] λ _=>none) ->
   Cl s₁.heap.objs.size (cellsFrom (s₁.heap.objs.size+1) d.scope.names []) s.heap (bindC (envOfC d.name d.scope s₁.heap.objs.size fa cd).kindOf [(x,.ref a)] λ _=>none) ->
   wpAny (model l.prog w) (callerA.deeper (envOfC d.name d.scope s₁.heap.objs.size fa cd)) (execs d.body (envOfC d.name d.scope s₁.heap.objs.size fa cd))
    (λ f s'=>f=.ret (.bool true)/\OldK s₁.heap s'.heap/\s'.os=s₁.os/\AllBare s'.gens) (λ _ _=>False) s) :
  WalkO q loose XP YP l.row.toRowW d [] (λ f vs=>PySem.call f vs):=by
 intro w s₀ s₁ mg mb G Y fa o pm cd doc dV kV ho hd hcd hD hmg hg args vals as hpre hlay hrd hwl hlo;obtain rfl:dV=.none:=Dflts.none hD hdf;obtain rfl:kV=.none:=Dflts.noKw hD;obtain⟨a,vs,ns,rfl,rfl,hobj,hints,hlen⟩:=Av hn hpre hwl;refine enter_call ?_;refine call_cells_ret (o:=o) (by rw[depth_caller];decide) ho (fd_plain hd) G.T.nolimit hcd (hbind pm cd doc (.ref a)) (λ y hy=>?_) (λ h₁ tk F X=>?_) hco hgen hk
 ·obtain rfl:y=(x,Value.ref a):=bA.mp hy
  rcases hx with e | e
  ·exact .inl e
  ·exact .inr ⟨e,cellsFrom_some _ _ _ (.inl e)⟩
 ·refine fh (body w s₀ s₁ {s₁ with heap:=h₁,toks:=tk} mg mb fa o pm cd doc a vs ns G Y ho (fd_plain hd) hcd hmg hobj hints hlen hg rfl F X) (λ f s' hq=>?_) (λ _ _ hq=>hq);obtain⟨rfl,h2,h3,h4⟩:=hq;exact⟨.inl ⟨.bool true,.bool true,[],rfl,λ _=>rfl,.bool true,Aw l _,λ _=>⟨List.Pairwise.nil,λ _ hm=>(nomatch hm)⟩⟩,h2,h3,h4⟩
theorem CS {l:OpenLaw}{n:Nat}{q:Program}{loose:List Str}{XP:(Str->iA iG)->Heap->Prop}{YP:World->Heap->Prop}{d:DefRec}
  (hn:l.most=some n) (hdf:d.params.defaults=[])
  (call:∀ (w:World) (s₀ s₁:iH) (mg mb:iq) (fa:Addr) (o:Obj) (pm cd doc:iG) (a:Addr) (vs:List iG) (ns:List Int),
   Ground q loose [] XP w s₀ mg mb s₁.heap->YP w s₁.heap ->
   s₁.heap.get? fa=some o->o.data=.func (docDef d.name d.params d.body d.scope pm cd doc)->s₁.heap.CodeRec cd d.name->mg d.name=some (.ref fa) ->
   s₁.heap.get? a=some {cls:=.type "list",data:=.seq vs.toArray}->IntsAre vs ns->ns.length<=n->s₁.gens=#[] ->
   codeAny (model l.prog w) callerA (.call (.ref fa) ⟨[.ref a],[]⟩) (λ r s'=>r=.ok (.ret (.bool true))/\OldK s₁.heap s'.heap/\s'.os=s₁.os/\AllBare s'.gens) s₁) :
  WalkO q loose XP YP l.row.toRowW d [] (λ f vs=>PySem.call f vs):=by
 intro w s₀ s₁ mg mb G Y fa o pm cd doc dV kV ho hd hcd hD hmg hg args vals as hpre hlay hrd hwl hlo;obtain rfl:dV=.none:=Dflts.none hD hdf;obtain rfl:kV=.none:=Dflts.noKw hD;obtain⟨a,vs,ns,rfl,rfl,hobj,hints,hlen⟩:=Av hn hpre hwl;refine enter_call (codeAny_mono (call w s₀ s₁ mg mb fa o pm cd doc a vs ns G Y ho (fd_plain hd) hcd hmg hobj hints hlen hg) λ r s' hq=>?_);obtain⟨rfl,h2,h3,h4⟩:=hq;exact⟨.inl ⟨.bool true,.bool true,[],rfl,λ _=>rfl,.bool true,Aw l _,λ _=>⟨List.Pairwise.nil,λ _ hm=>(nomatch hm)⟩⟩,h2,h3,h4⟩
section
variable {prog:Program}{w:World}{A:Around}{E:ir}{s:iH}{K:Frag}
def m9 (h:Heap):Heap:={h with objs:=#[]}
end
end Att
namespace L2
open PySem PySem.Spec PyProof.Rows
theorem Ax:∀ {vs:List iG} {ns:List Int},IntsAre vs ns->Vals (ns.map V.int) vs
 | _,_,.nil=>.nil
 | _,_,.cons n t h=>.cons ⟨t,rfl⟩ (Ax h)
def PQ (H:Hp):Prop:=∀ b,H b=none\/∃ o xs,H b=some (.frz o (.lst xs))
theorem JH {P:Program}{w:World}{K:iF}{mg mb:iq}{CX:CXT}{k:Nat}{fa a:Addr}{fd:FuncData}{x:Str}{sp:Sp}{s₁:iH}{vs:List iG}{ns:List Int}
  (KX:K.In s₁.heap) (hns:s₁.heap.Ns mainGlobals mg) (hb:s₁.heap.Ns builtinsNs mb) (hbb:∀ x:Str,x≠"__name__"->mb x=bootBuiltins x) (hlim:s₁.heap.NoLimit) (hg:s₁.gens=#[])
  (ha:s₁.heap.get? a=some {cls:=.type "list",data:=.seq vs.toArray}) (hi:IntsAre vs ns) (hl:ns.length<=sizeLine) (hr:lV k callerA)
  (F:∀ base:Heap,K.In base->base.Ns mainGlobals mg->vk P w K mg base CX k fa fd [x] sp) (hbind:∀ (s:iH) (u:iG),BindsTo s fd ⟨[u],[]⟩ [(x,u)])
  (hsp:∀ H:Hp,PQ H->SqL K H a (ns.map V.int)->sp [.ref a] H (λ v _=>v=.bl true) λ _ _ _=>False)
  (hCX:∀ H e s',CX [] H s₁ (λ _ _ _=>False) e s'->False) :
  codeAny (model P w) callerA (.call (.ref fa) ⟨[.ref a],[]⟩) (λ r s'=>r=.ok (.ret (.bool true))/\OldK s₁.heap s'.heap/\s'.os=s₁.os/\AllBare s'.gens) s₁:=by
 have rv:=Ax hi;have lenV:=hi.length;have core:∀ H:Hp,PQ H->SqL K H a (ns.map V.int)->HOk P w H s₁.heap->(∀ b,H b≠none->b=a)->(H a≠none->K.lookup a=none) ->
   codeAny (model P w) callerA (.call (.ref fa) ⟨[.ref a],[]⟩) (λ r s'=>r=.ok (.ret (.bool true))/\OldK s₁.heap s'.heap/\s'.os=s₁.os/\AllBare s'.gens) s₁:=by
  intro H hO hS hok hA hK;have base_of:∀ {b:Addr} {o:Obj},s₁.heap.get? b=some o->H b=none->(A2 s₁.heap H).get? b=some o:=λ e n=>Jj e n;have noA:∀ {b:Addr} {o:Obj} {es:Array DictEntry} {ep:Nat},s₁.heap.get? b=some o->o.data=.dict es ep->H b=none:=λ{b o es ep} e d=>by
   cases q:H b with
   | none=>rfl
   | some u =>have e':b=a:=hA b (by rw[q];simp);subst e';rw[ha]at e;cases e;have d':Data.seq vs.toArray _=Data.dict es ep:=d;cases d'
  have nsK:∀ {b:Addr} {m:iq},s₁.heap.Ns b m->(A2 s₁.heap H).Ns b m:=λ{b m} ⟨o,es,ep,e,d,r⟩=>⟨o,es,ep,base_of e (noA e d),d,r⟩;have hKb:K.In (A2 s₁.heap H):=λ b o e=>base_of (KX b o e) (by
   cases q:H b with
   | none=>rfl
   | some u =>have e':b=a:=hA b (by rw[q];simp);subst e';rw[hK (by rw[q];simp)]at e;cases e)
  have hM:Mod K mg (A2 s₁.heap H):=⟨hKb,nsK hns,⟨mb,nsK hb,hbb⟩,let ⟨mc,h1,h2⟩:=hlim;⟨mc,nsK h1,h2⟩⟩;have e0:Mm P w K mg (A2 s₁.heap H) callerA [] s₁ H:=⟨rfl,hM,λ b o e=>Md e,gG (HP _ _),trivial,λ b hb=>absurd (show b∈([]:List Addr) from hb) (by simp),hok,.of_eq hg⟩;refine codeAny_mono ((F _ hKb (nsK hns)).run callerA [] s₁ H ⟨[.ref a],[]⟩ [.ref a] [.ref a] _ _ hr e0 (hbind s₁ (.ref a)) (.cons rfl .nil) (hsp H hO hS)) λ r s' h=>?_;cases r with
  | error e=>exact(hCX H e s' h).elim
  | ok fl =>
   cases fl with
   | next=>exact False.elim h
   | brk=>exact False.elim h
   | cont=>exact False.elim h
   | ret u =>
    obtain⟨v,H',os,bare,un,hok',r',q⟩:=h;have q':v=.bl true:=q;subst q';obtain rfl:u=Value.bool true:=r';refine⟨rfl,OldK.of_keep λ b o e=>?_,os,bare⟩;cases q:H b with
    | none=>exact un.keep b o e q (by intro z;exact absurd (show b∈([]:List Addr) from z) (by simp)) (by simp)
    | some u =>
     rcases hO b with z | ⟨ob,xs,z⟩
     ·rw[q]at z;cases z
     ·have z2:=un.tL b ob _ z;obtain⟨e1,_⟩:=hok b _ z;obtain⟨e2,_⟩:=hok' b _ z2;rw[e]at e1;cases e1;exact e2
 cases hk:K.lookup a with
 | some o =>have e:=KX a o hk;rw[ha]at e;cases e;refine core (λ _=>none) (λ _=>.inl rfl) (.inr ⟨_,vs.toArray,_,hk,rfl,rfl,rfl,by rw[aM,lenV];exact hl,by simpa using rv⟩) (λ b u z=>by have z':(none:iA HO)=some u:=z;cases z') (λ b z=>absurd rfl z) λ z=>absurd rfl z
 | none =>
  refine core (λ b=>if b=a then some (.frz {cls:=.type "list",data:=.seq vs.toArray} (.lst (ns.map V.int))) else none) (λ b=>?_) (.inl (.inr ⟨{cls:=.type "list",data:=.seq vs.toArray},af rfl⟩)) (λ b u z=>?_) (λ b z=>?_) λ _=>hk
  ·by_cases hb:b=a
   ·exact .inr ⟨_,_,af hb⟩
   ·exact .inl (ah hb)
  ·by_cases hb:b=a
   ·have z':=(af hb).symm.trans z;cases z';subst hb;exact⟨ha,by rw[ag];exact hl,vs,_,rv,ha⟩
   ·have z':=(ah hb).symm.trans z;cases z'
  ·by_cases hb:b=a
   ·exact hb
   ·exact absurd (ah hb) z
theorem Gp {l:PySem.W.OpenLaw}{n k:Nat}{q:Program}{loose:List Str}{XP:(Str->iA iG)->Heap->Prop}{YP:World->Heap->Prop}{d:DefRec}{K:Params->iF}{CX:World->CXT}{sp:World->Sp}{x:Str}
  (hn:l.most=some n) (hn2:n<=sizeLine) (hdf:d.params.defaults=[]) (hr:lV k callerA)
  (hY:∀ (w:World) (h:Heap),YP w h->(K w.params).In h)
  (F:∀ (w:World) (mg:iq) (fa:Addr) (h:Heap),(K w.params).In h->h.Ns mainGlobals mg->mg d.name=some (.ref fa) ->
   ∃ fd:FuncData,(∀ (s:iH) (u:iG),BindsTo s fd ⟨[u],[]⟩ [(x,u)]) /\
    ∀ base:Heap,(K w.params).In base->base.Ns mainGlobals mg->vk l.prog w (K w.params) mg base (CX w) k fa fd [x] (sp w))
  (hsp:∀ (w:World) (H:Hp) (a:Addr) (ns:List Int),ns.length<=n->PQ H->SqL (K w.params) H a (ns.map V.int)->sp w [.ref a] H (λ v _=>v=.bl true) λ _ _ _=>False)
  (hCX:∀ (w:World) (H:Hp) (s:iH) (e:iG) (s':iH),CX w [] H s (λ _ _ _=>False) e s'->False) :
  PySem.W.WalkO q loose XP YP l.row.toRowW d [] (λ f vs=>PySem.call f vs):=by
 refine Att.CS hn hdf λ w s₀ s₁ mg mb fa o pm cd doc a vs ns G Y ho hd hcd hmg hobj hints hlen hg=>?_;have KX:=hY w _ Y;obtain⟨fd,hb,hF⟩:=F w mg fa _ KX G.T.g hmg;exact JH KX G.T.g G.T.b G.T.builtins G.T.nolimit hg hobj hints (bf hlen hn2) hr hF hb (λ H hO hS=>hsp w H a ns hlen hO hS) λ H e s'=>hCX w H s₁ e s'
def tV (s:Stmt):Arguments:=match s with
 | .FunctionDef _ a _ _ _ _ _ _ _ _=>a
 | _=>{posonlyargs:=[],args:=[],vararg:=none,kwonlyargs:=[],kw_defaults:=[],kwarg:=none,defaults:=[]}
def ow (s:Stmt):List Stmt:=match s with
 | .FunctionDef _ _ b _ _ _ _ _ _ _=>b
 | _=>[]
def iX (s:Stmt):Scope:=match s with
 | .FunctionDef _ _ _ _ _ _ sc _ _ _=>sc
 | _=>{kind:=.function,names:=[],isGenerator:=false,isCoroutine:=false}
abbrev CX0:CXT:=λ _ _ _ _ _ _=>False
abbrev E0:XK:=λ _ _ _=>False
theorem Ov {X:Cx}:Passes CX0 X E0:=λ _ _ _ _ _ _ _ h=>h.elim
structure Fun (K:iF)(x qual:Str)(st:Stmt)(f:Addr)(fd:FuncData):Prop where
 ex:∃ (oc:iG) (od:iA Addr) (kV doc pm:iG) (an:iA Addr) (cdv ct:iG) (osl:Array (iA iG)),
  fd=PySem.W.fnOf x qual (tV st) (ow st) (iX st) .none kV doc pm an cdv ct/\K.lookup f=some ⟨oc,od,.func fd,osl⟩/\PySem.W.codeIn K cdv qual=true
 kp:PySem.W.keepIn K (.ref f)=true
section
variable {P:Program}{w:World}{K:iF}{mg:iq}{base:Heap}
theorem Fun.ok {x qual:Str}{st:Stmt}{f:Addr}{fd:FuncData}{N ps:List Str}{k:Nat}{sp:Sp}(F:Fun K x qual st f fd)(S:jg N ps (iX st))(len:∀ vs H Q E,sp vs H Q E->vs.length=ps.length)
  (hbody:∀ (cdv:iG) (A:Around) (outer:List Env) (s:iH) (H:Hp) (vs:List V) (Q:VK) (E:XK),lV k (A.deeper (envOfC qual (iX st) s.heap.objs.size f cdv))->sp vs H Q E ->
   ∃ t,PSs (CJ CX0 P w K mg base N qual (iX st) f cdv A outer s H E).nox (ow st) t/\t {nx:=λ _ H'=>Q .non H',rt:=Q} (start N vs) H):vk P w K mg base CX0 (k+1) f fd ps sp:=by
 obtain⟨oc,od,kV,doc,pm,an,cdv,ct,osl,rfl,lk,hcd⟩:=F.ex;refine RT lk hcd S len λ A outer s H vs Q E hr hsp=>?_;obtain⟨t,h,q⟩:=hbody cdv A outer s H vs Q E hr hsp;exact⟨t,h.nox,q⟩
theorem PR {x qual:Str}{st:Stmt}{f:Addr}{oc:iG}{od an:iA Addr}{osl:Array (iA iG)}{kV doc pm cdv ct:iG}(l:K.lookup f=some ⟨oc,od,.func (PySem.W.fnOf x qual (tV st) (ow st) (iX st) .none kV doc pm an cdv ct),osl⟩)
  (c:PySem.W.codeIn K cdv qual=true) (k:PySem.W.keepIn K (.ref f)=true):Fun K x qual st f (PySem.W.fnOf x qual (tV st) (ow st) (iX st) .none kV doc pm an cdv ct):=⟨⟨oc,od,kV,doc,pm,an,cdv,ct,osl,rfl,l,c⟩,k⟩
end
theorem Ow {A:Around}{k:Nat}(hr:lV k A):A.units+1<cLine:=bR (Nat.add_le_add_left (by decide:1<=64) _) hr.units
section
variable {X:Cx}
theorem pv (i:Nat){x:Str}{pos:Pos}(hN:X.N[i]?=some x:=by rfl)(hv:Vis X.env.scope x:=by trivial)(hd:(x==("__debug__":Str))=false:=by decide)
  (hcd:(x==("__classdict__":Str))=false:=by decide):PE X (.Name x pos) (jj i):=Jk hN hv hd hcd
end
theorem JI {A B:Prop}(h:B):if false=true then A else B:=by rw[ah aI];exact h
theorem EV {A B:Prop}(h:A):if true=true then A else B:=by rw[af rfl];exact h
theorem PU {c A B:Prop}[Decidable c](h1:c->A)(h2:¬ c->B):if c then A else B:=by
 by_cases h:c
 ·rw[af h];exact h1 h
 ·rw[ah h];exact h2 h
def iZ (H H':Hp):Prop:=∀ b o,H b=some o->H' b=some o
theorem iZ.refl (H:Hp):iZ H H:=λ _ _ h=>h
theorem iZ.trans {H H1 H2:Hp}(a:iZ H H1)(b:iZ H1 H2):iZ H H2:=λ c o h=>b c o (a c o h)
theorem iZ.free {H H':Hp}(e:iZ H H'){l:Addr}(h:H' l=Option.none):H l=Option.none:=by
 cases q:H l with
 | none=>rfl
 | some o =>rw[e l o q]at h;cases h
theorem iZ.seq {K:iF}{H H':Hp}{a:Addr}{xs:List V}(e:iZ H H')(h:SqL K H a xs):SqL K H' a xs:=by
 rcases h with (h | ⟨o,h⟩) | h
 ·exact .inl (.inl (e _ _ h))
 ·exact .inl (.inr ⟨o,e _ _ h⟩)
 ·exact .inr h
section
variable {κ:Type}[DecidableEq κ]
theorem Be:∀ {l:List κ} {k:κ},l.Nodup->¬ k∈l->(l++[k]).Nodup
 | [],k,_,_=>by simp
 | a::r,k,h,hk=>by
  obtain⟨h1,h2⟩:=bx.mp h;show(a::(r++[k])).Nodup;refine bx.mpr ⟨λ m=>?_,Be h2 λ m=>hk (aN.mpr (Or.inr m))⟩;rcases bG.mp m with q | q
  ·exact h1 q
  ·exact hk (aN.mpr (Or.inl (bA.mp q).symm))
end
end L2
namespace Tb
open PySem
def Ri (xs:Array Nat):Prop:=∀ (a b x y:Nat),a<b->xs[a]?=some x->xs[b]?=some y->x<y
def Bel (xs:Array Nat)(j r:Nat):Prop:=r<=xs.size/\(∀ k x,k<r->xs[k]?=some x->x<j)/\(∀ k x,r<=k->xs[k]?=some x->j<=x)
theorem xX {xs:Array Nat}{j:Nat}(R:Ri xs):∀ (fuel lo hi:Nat),hi<=lo+fuel->lo<=hi->hi<=xs.size->(∀ k x,k<lo->xs[k]?=some x->x<j)->(∀ k x,hi<=k->xs[k]?=some x->j<=x)->Bel xs j (SetTable.below.go xs j fuel lo hi)
 | 0,lo,hi,h1,h2,h3,h4,h5=>by
  have e:lo=hi:=by lia
  subst e;exact⟨h3,h4,h5⟩
 | fuel+1,lo,hi,h1,h2,h3,h4,h5=>by
  unfold SetTable.below.go;by_cases hlt:lo<hi
  ·rw[af hlt]
   have hm:(lo+hi) / 2<xs.size:=by lia
   obtain⟨v,hv⟩:∃ v,xs[(lo+hi) / 2]?=some v:=⟨xs[(lo+hi) / 2],by simp[hm]⟩;have hd:xs.getD ((lo+hi) / 2) j=v:=by rw[bK,hv];rfl
   dsimp only;rw[hd];by_cases hj:v<j
   ·rw[af hj]
    refine xX R fuel _ _ (by lia) (by lia) h3 (λ k x hk e=>?_) h5;by_cases hk':k=(lo+hi) / 2
    ·subst hk';rw[hv]at e;cases e;exact hj
    ·exact Nat.lt_trans (R k _ x v (by lia) e hv) hj
   ·rw[ah hj]
    refine xX R fuel _ _ (by lia) (by lia) (by lia) h4 (λ k x hk e=>?_);by_cases hk':k=(lo+hi) / 2
    ·subst hk';rw[hv]at e;cases e;lia
    ·have:=R _ k v x (by lia) hv e;lia
  ·rw[ah hlt]
   have e:lo=hi:=by lia
   subst e;exact⟨h3,h4,h5⟩
theorem xY {xs:Array Nat}(R:Ri xs)(j:Nat):Bel xs j (SetTable.below xs j) :=
 xX R xs.size 0 xs.size (by lia) (bg _) (ak _) (λ k x hk=>absurd hk (eA _)) λ k x hk e=>by rw[eX hk]at e;cases e
theorem below_at {xs:Array Nat}(R:Ri xs){i j:Nat}(e:xs[i]?=some j):SetTable.below xs j=i:=by
 obtain⟨h1,h2,h3⟩:=xY R j;rcases gU i (SetTable.below xs j) with h | h | h
 ·exact absurd (h2 i j h e) (bD _)
 ·exact h.symm
 ·have hi:i<xs.size:=(cY.mp e).1
  have hr:SetTable.below xs j<xs.size:=by lia
  have hv:xs[SetTable.below xs j]?=some xs[SetTable.below xs j]:=by simp[hr]
  have a:=R _ _ _ _ h hv e;have b:=h3 _ _ (ak _) hv;lia
def Occ (t:SetTable)(j:Nat):Prop:=∃ i:Nat,t.place[i]?=some j
theorem vo {t:SetTable}(R:Ri t.place){i j:Nat}(e:t.place[i]?=some j):t.slot j=.live i:=by unfold SetTable.slot;rw[below_at R e];dsimp only;rw[e];simp
theorem EW {t:SetTable}(hd:t.dummies=#[]){j:Nat}(e:¬ Occ t j):t.slot j=.empty:=by
 unfold SetTable.slot;dsimp only;rw[ah,hd]
 ·have:SetTable.has #[] j=false:=by
   unfold SetTable.has;simp
  rw[this];rfl
 ·intro h;exact e ⟨_,by simpa using h⟩
def adv (mask:Nat)(p:SetTable.Probe):SetTable.Probe :=
 if p.more>0 then {p with j:=p.j+1,more:=p.more-1} else {p with j:=(SetTable.leap mask p.i p.perturb).1,more:=SetTable.runEnd mask (SetTable.leap mask p.i p.perturb).1-(SetTable.leap mask p.i p.perturb).1,i:=(SetTable.leap mask p.i p.perturb).1,perturb:=(SetTable.leap mask p.i p.perturb).2}
theorem xZ (t:SetTable)(p:SetTable.Probe):t.advance p=adv t.mask p:=by unfold SetTable.advance adv;split<;>rfl
def walk (mask:Nat)(p:SetTable.Probe):Nat->SetTable.Probe
 | 0=>p
 | n+1=>adv mask (walk mask p n)
theorem JJ (mask:Nat)(p:SetTable.Probe):∀ n,walk mask (adv mask p) n=walk mask p (n+1)
 | 0=>rfl
 | n+1=>by show adv mask (walk mask (adv mask p) n)=adv mask (walk mask p (n+1));rw[JJ mask p n]
theorem tW (mask:Nat)(p:SetTable.Probe)(a:Nat):∀ n,walk mask (walk mask p a) n=walk mask p (a+n)
 | 0=>rfl
 | n+1=>by show adv mask (walk mask (walk mask p a) n)=adv mask (walk mask p (a+n));rw[tW mask p a n]
def st (mask:Nat)(h:Int):SetTable.Probe:={j:=SetTable.bits h % (mask+1),more:=SetTable.runEnd mask (SetTable.bits h % (mask+1))-SetTable.bits h % (mask+1),i:=SetTable.bits h % (mask+1),perturb:=SetTable.bits h,dummy:=none}
theorem H_ (mask:Nat)(p:SetTable.Probe):(adv mask p).dummy=p.dummy:=by unfold adv;split<;>rfl
theorem x_ (mask:Nat)(p:SetTable.Probe):∀ n,(walk mask p n).dummy=p.dummy
 | 0=>rfl
 | n+1=>(H_ _ _).trans (x_ mask p n)
def bdy (mask i perturb:Nat):SetTable.Probe:={j:=i,more:=SetTable.runEnd mask i-i,i:=i,perturb:=perturb,dummy:=none}
theorem Ia (mask i:Nat):SetTable.runEnd mask i-i<=9:=by unfold SetTable.runEnd;split<;>lia
theorem EX (mask i perturb:Nat):∀ k,k<=SetTable.runEnd mask i-i->walk mask (bdy mask i perturb) k={j:=i+k,more:=SetTable.runEnd mask i-i-k,i:=i,perturb:=perturb,dummy:=none}
 | 0,_=>rfl
 | k+1,h=>by show adv mask (walk mask (bdy mask i perturb) k)=_;rw[EX mask i perturb k (by lia)];unfold adv;rw[af (by show SetTable.runEnd mask i-i-k>0;lia)];show SetTable.Probe.mk (i+k+1) (SetTable.runEnd mask i-i-k-1) i perturb none=SetTable.Probe.mk (i+(k+1)) (SetTable.runEnd mask i-i-(k+1)) i perturb none;congr 1
theorem CT (mask i perturb:Nat):walk mask (bdy mask i perturb) (SetTable.runEnd mask i-i+1)=bdy mask (SetTable.leap mask i perturb).1 (SetTable.leap mask i perturb).2:=by show adv mask (walk mask (bdy mask i perturb) (SetTable.runEnd mask i-i))=_;rw[EX mask i perturb _ (ak _)];unfold adv;rw[ah (by show ¬ SetTable.runEnd mask i-i-(SetTable.runEnd mask i-i)>0;lia)];rfl
def lp (mask:Nat)(i perturb:Nat):Nat->Nat×Nat
 | 0=>(i,perturb)
 | n+1=>SetTable.leap mask (lp mask i perturb n).1 (lp mask i perturb n).2
theorem Gq (mask i perturb:Nat):∀ L,∃ n,n<=10*L/\walk mask (bdy mask i perturb) n=bdy mask (lp mask i perturb L).1 (lp mask i perturb L).2
 | 0=>⟨0,ak _,rfl⟩
 | L+1=>by
  obtain⟨n,hn,e⟩:=Gq mask i perturb L;refine⟨n+(SetTable.runEnd mask (lp mask i perturb L).1-(lp mask i perturb L).1+1),?_,?_⟩
  ·have:=Ia mask (lp mask i perturb L).1;lia
  ·rw[<-tW,e];exact CT _ _ _
theorem Gr (mask i perturb:Nat):∀ L,(lp mask i perturb L).2=perturb / 32 ^ L
 | 0=>by simp[lp]
 | L+1=>by show(lp mask i perturb L).2 / 32=_;rw[Gr mask i perturb L,Nat.div_div_eq_div_mul,Nat.pow_succ]
theorem EY (mask i perturb a:Nat):∀ L,lp mask i perturb (a+L)=lp mask (lp mask i perturb a).1 (lp mask i perturb a).2 L
 | 0=>rfl
 | L+1=>by show SetTable.leap mask (lp mask i perturb (a+L)).1 (lp mask i perturb (a+L)).2=_;rw[EY mask i perturb a L];rfl
def lc (mask:Nat):Nat->Nat
 | 0=>0
 | n+1=>(lc mask n*5+1) % (mask+1)
def Mk (mask:Nat):Prop:=mask=7\/mask=31\/mask=127
theorem Mt:∀ j,j<8->∃ k,k<8/\lc 7 k=j:=by decide +kernel
theorem JK:∀ j,j<32->∃ k,k<32/\lc 31 k=j:=by decide +kernel
theorem Ib:∀ j,j<128->∃ k,k<128/\lc 127 k=j:=by decide +kernel
theorem Mu:lc 7 8=0/\lc 31 32=0/\lc 127 128=0:=by decide +kernel
theorem JL {mask:Nat}(m:Mk mask){j:Nat}(h:j<=mask):∃ k,k<=mask/\lc mask k=j:=by
 rcases m with rfl | rfl | rfl
 ·obtain⟨k,h1,h2⟩:=Mt j (by lia);exact⟨k,by lia,h2⟩
 ·obtain⟨k,h1,h2⟩:=JK j (by lia);exact⟨k,by lia,h2⟩
 ·obtain⟨k,h1,h2⟩:=Ib j (by lia);exact⟨k,by lia,h2⟩
theorem JM {mask:Nat}(m:Mk mask):∀ n,lc mask (mask+1+n)=lc mask n
 | 0=>by
  have:=Mu;rcases m with rfl | rfl | rfl
  ·exact this.1
  ·exact this.2.1
  ·exact this.2.2
 | n+1=>by show(lc mask (mask+1+n)*5+1) % (mask+1)=(lc mask n*5+1) % (mask+1);rw[JM m n]
theorem Ox {mask:Nat}(a:Nat):∀ L,(lp mask (lc mask a) 0 L).1=lc mask (a+L)/\(lp mask (lc mask a) 0 L).2=0
 | 0=>⟨rfl,rfl⟩
 | L+1=>by
  obtain⟨h1,h2⟩:=Ox (mask:=mask) a L;refine⟨?_,?_⟩
  ·show((lp mask (lc mask a) 0 L).1*5+1+(lp mask (lc mask a) 0 L).2 / 32) % (mask+1)=(lc mask (a+L)*5+1) % (mask+1);rw[h1,h2]
  ·show(lp mask (lc mask a) 0 L).2 / 32=0;rw[h2]
theorem Mv (h:Int):SetTable.bits h<2 ^ 64:=by unfold SetTable.bits;have h1:=bX h (show(2 ^ 64:Int)≠0 by decide);have h2:=cC h (show(0:Int)<2 ^ 64 by decide);lia
theorem JN {mask:Nat}(m:Mk mask)(i:Nat)(hi:i<=mask)(h:Int){j:Nat}(hj:j<=mask):∃ L,L<SetTable.turns mask/\(lp mask i (SetTable.bits h) L).1=j:=by
 have hp:(lp mask i (SetTable.bits h) 13).2=0:=by rw[Gr];have:=Mv h;exact Nat.div_eq_of_lt (aJ this (by decide))
 have hlt:∀ L,(lp mask i (SetTable.bits h) (L+1)).1<=mask:=λ L=>by show((lp mask i (SetTable.bits h) L).1*5+1+(lp mask i (SetTable.bits h) L).2 / 32) % (mask+1)<=mask;exact cP (fY _ (g_ _))
 obtain⟨a,ha,ea⟩:=JL m (hlt 12);obtain⟨b,hb,eb⟩:=JL m hj;obtain⟨L,hL,eL⟩:∃ L,L<=mask/\lc mask (a+L)=j:=by
  by_cases hab:a<=b
  ·exact⟨b-a,by lia,by rw[show a+(b-a)=b by lia];exact eb⟩
  ·refine⟨mask+1+b-a,by lia,?_⟩;rw[show a+(mask+1+b-a)=mask+1+b by lia,JM m];exact eb
 refine⟨13+L,by unfold SetTable.turns;lia,?_⟩;rw[EY,hp,<-ea];rw[(Ox a L).1];exact eL
def Reach (mask:Nat)(h:Int)(occ:Nat->Prop)(j:Nat):Prop:=∃ n,(walk mask (st mask h) n).j=j/\∀ m,m<n->occ (walk mask (st mask h) m).j
theorem Reach.mono {mask:Nat}{h:Int}{occ occ':Nat->Prop}{j:Nat}(r:Reach mask h occ j)(k:∀ x,occ x->occ' x):Reach mask h occ' j :=
 let ⟨n,e,a⟩:=r
 ⟨n,e,λ m hm=>k _ (a m hm)⟩
structure TOk (t:SetTable)(hs:List Int):Prop where
 m:Mk t.mask
 d:t.dummies=#[]
 ri:Ri t.place
 le:∀ (i j:Nat),t.place[i]?=some j->j<=t.mask
 sz:t.place.size=hs.length
 ro:t.place.size<=t.mask
 rc:∀ (i j:Nat) (h:Int),t.place[i]?=some j->hs[i]?=some h->Reach t.mask h (Occ t) j
theorem bits_le (mask:Nat)(h:Int):SetTable.bits h % (mask+1)<=mask:=cP (fY _ (g_ _))
theorem ya {α:Type}[BEq α][LawfulBEq α]:∀ (l l':List α),l.Nodup->(∀ x,x∈l->x∈l')->l.length<=l'.length
 | [],l',_,_=>bg _
 | a::r,l',hn,hs=>by obtain⟨h1,h2⟩:=bx.mp hn;have ha:=hs a ar;have:=ya r (l'.erase a) h2 λ x hx=>(List.mem_erase_of_ne (show x≠a from λ e=>h1 (e▸hx))).mpr (hs x (av _ hx));rw[List.length_erase_of_mem ha]at this;have hpos:0<l'.length:=List.length_pos_of_mem ha;rw[aQ];lia
theorem Ic {xs:Array Nat}{mask:Nat}(R:Ri xs)(hs:xs.size<=mask):∃ j,j<=mask/\¬ ∃ i:Nat,xs[i]?=some j:=by
 refine aR λ hn=>?_;have all:∀ j,j<=mask->j∈xs.toList:=λ j hj=>by refine aR λ hm=>hn ⟨j,hj,λ⟨i,e⟩=>hm ?_⟩;rw[<-bU]at e;exact a8 e
 have:=ya (List.range (mask+1)) xs.toList bj λ j hj=>all j (cP (aw.mp hj));simp at this;lia
theorem Mw {t:SetTable}{hs:List Int}(T:TOk t hs)(h:Int):∃ e,e<10*SetTable.turns t.mask/\¬ Occ t (walk t.mask (st t.mask h) e).j:=by
 obtain⟨j,hj,hn⟩:=Ic T.ri T.ro;obtain⟨L,hL,e⟩:=JN T.m _ (bits_le t.mask h) h hj;obtain⟨n,hn',e2⟩:=Gq t.mask (SetTable.bits h % (t.mask+1)) (SetTable.bits h) L;refine⟨n,by lia,?_⟩;have e3:(walk t.mask (st t.mask h) n).j=j:=by have:walk t.mask (st t.mask h) n=_:=e2;rw[this];exact e
 rw[e3];exact hn
theorem least {P:Nat->Prop}{e:Nat}(h:P e):∃ n,n<=e/\P n/\∀ m,m<n->¬ P m:=by
 induction e using Nat.strongRecOn with
 | ind e ih =>
  by_cases q:∃ m,m<e/\P m
  ·obtain⟨m,hm,pm⟩:=q;obtain⟨n,a,b,c⟩:=ih m hm pm;exact⟨n,by lia,b,c⟩
  ·exact⟨e,ak _,h,λ m hm pm=>q ⟨m,hm,pm⟩⟩
theorem Ie {t:SetTable}{hs:List Int}(T:TOk t hs)(h:Int):∃ e,e<10*SetTable.turns t.mask/\¬ Occ t (walk t.mask (st t.mask h) e).j/\∀ m,m<e->Occ t (walk t.mask (st t.mask h) m).j:=by obtain⟨e,he,hn⟩:=Mw T h;obtain⟨n,h1,h2,h3⟩:=least (P:=λ n=>¬ Occ t (walk t.mask (st t.mask h) n).j) hn;exact⟨n,by lia,h2,λ m hm=>aR (h3 m hm)⟩
theorem CU {t:SetTable}{hs:List Int}(T:TOk t hs){hashAt:Nat->Int}{h:Int}{e:Nat}(he:¬ Occ t (walk t.mask (st t.mask h) e).j)(hb:∀ m,m<e->Occ t (walk t.mask (st t.mask h) m).j) :
  ∀ (fuel n:Nat),n<=e->e<n+fuel->SetTable.probe.go t hashAt h fuel (walk t.mask (st t.mask h) n)=some (.empty (walk t.mask (st t.mask h) e).j none)/\(∀ m,n<=m->m<e->∀ i:Nat,t.place[i]?=some (walk t.mask (st t.mask h) m).j->hashAt i≠h) \/
   ∃ m i:Nat,n<=m/\m<e/\t.place[i]?=some (walk t.mask (st t.mask h) m).j/\hashAt i=h/\(∀ m',n<=m'->m'<m->∀ i:Nat,t.place[i]?=some (walk t.mask (st t.mask h) m').j->hashAt i≠h) /\
    SetTable.probe.go t hashAt h fuel (walk t.mask (st t.mask h) n)=some (.candidate (walk t.mask (st t.mask h) m).j i (walk t.mask (st t.mask h) (m+1)))
 | 0,n,h1,h2=>by lia
 | fuel+1,n,h1,h2=>by
  by_cases q:n=e
  ·subst q;refine .inl ⟨?_,λ m a b=>by lia⟩;unfold SetTable.probe.go;rw[EW T.d he];dsimp only;rw[x_];rfl
  ·obtain⟨i,hi⟩:=hb n (by lia)
   by_cases hh:hashAt i=h
   ·refine .inr ⟨n,i,ak _,by lia,hi,hh,λ m' a b=>by lia,?_⟩;unfold SetTable.probe.go;rw[vo T.ri hi];dsimp only;rw[af (by simpa using hh),xZ];rfl
   ·have stp:SetTable.probe.go t hashAt h (fuel+1) (walk t.mask (st t.mask h) n)=SetTable.probe.go t hashAt h fuel (walk t.mask (st t.mask h) (n+1)):=by
     rw[SetTable.probe.go];rw[vo T.ri hi];dsimp only;rw[ah (by simpa using hh),xZ];rfl
    have skip:∀ m',n<=m'->¬ n+1<=m'->∀ i:Nat,t.place[i]?=some (walk t.mask (st t.mask h) m').j->hashAt i≠h:=λ m' a b i' e'=>by
     have:m'=n:=by lia
     subst this;have:i'=i:=(below_at T.ri e').symm.trans (below_at T.ri hi);rw[this];exact hh
    rcases CU T he hb fuel (n+1) (by lia) (by lia) with⟨a,b⟩ | ⟨m,i',a1,a2,a3,a4,a5,a6⟩
    ·refine .inl ⟨stp.trans a,λ m hm1 hm2=>?_⟩
     by_cases hm:n+1<=m
     ·exact b m hm hm2
     ·exact skip m hm1 hm
    ·refine .inr ⟨m,i',by lia,a2,a3,a4,λ m' hm1 hm2=>?_,stp.trans a6⟩
     by_cases hm:n+1<=m'
     ·exact a5 m' hm hm2
     ·exact skip m' hm1 hm
theorem Gs {α:Type}(xs:Array α)(p:Nat)(x:α)(hp:p<=xs.size)(k:Nat):(SetTable.insertAt xs p x)[k]?=if k<p then xs[k]? else if k=p then some x else xs[k-1]?:=by
 rw[<-bU,fy,<-bU,<-bU];have hl:(xs.toList.take p).length=p:=by rw[dZ];simp;lia
 by_cases h1:k<p
 ·rw[af h1,bW (by lia),fx h1]
 ·rw[ah h1,bS (by lia),hl]
  by_cases h2:k=p
  ·rw[af h2,h2,Nat.sub_self];rfl
  ·rw[ah h2];obtain⟨c,hc⟩:∃ c,k-p=c+1:=⟨k-p-1,by lia⟩;rw[hc,bh,List.getElem?_drop];congr 1;lia
theorem tX {α:Type}(xs:Array α)(p:Nat)(x:α):(SetTable.insertAt xs p x).size=xs.size+1:=by have:=(SetTable.insertAt_perm xs p x).length_eq;simpa using this
theorem PV {t:SetTable}{hs:List Int}(T:TOk t hs){h:Int}{e:Nat}(he:¬ Occ t (walk t.mask (st t.mask h) e).j)(hb:∀ m,m<e->Occ t (walk t.mask (st t.mask h) m).j)(hj:(walk t.mask (st t.mask h) e).j<=t.mask)(hr:t.place.size+1<=t.mask){led plain:Bool} :
  TOk {(t.put (walk t.mask (st t.mask h) e).j).1 with plain:=plain} ((SetTable.insertAt hs.toArray (SetTable.below t.place (walk t.mask (st t.mask h) e).j) h).toList):=by
 generalize hjj:(walk t.mask (st t.mask h) e).j=j at *;obtain⟨b1,b2,b3⟩:=xY T.ri j;generalize hp:SetTable.below t.place j=p at *;have pl:((t.put j).1).place=SetTable.insertAt t.place p j:=by rw[<-hp];rfl
 have dm:((t.put j).1).dummies=#[]:=by show(if SetTable.has t.dummies j then _ else _)=_;rw[ah,T.d];rw[T.d];simp[SetTable.has]
 have get:=Gs t.place p j b1;have old:∀ x,Occ t x->Occ {(t.put j).1 with plain:=plain} x:=λ x ⟨i,hi⟩=>by
  by_cases hip:i<p
  ·exact⟨i,by show(t.put j).1.place[i]?=_;rw[pl,get,af hip];exact hi⟩
  ·refine⟨i+1,?_⟩;show(t.put j).1.place[i+1]?=_;rw[pl,get,ah (by lia),ah (by lia)];exact hi
 have gh:=Gs hs.toArray p h (by rw[aM,<-T.sz];exact b1);refine⟨T.m,dm,?_,λ i x hx=>?_,?_,?_,λ i x h' hx hh=>?_⟩
 ·intro a b x y hab hx hy
  have hx:(t.put j).1.place[a]?=some x:=hx;have hy:(t.put j).1.place[b]?=some y:=hy;rw[pl,get]at hx hy;by_cases ha:a<p
  ·rw[af ha]at hx
   by_cases hb':b<p
   ·rw[af hb']at hy;exact T.ri a b x y hab hx hy
   ·rw[ah hb']at hy
    by_cases hb2:b=p
    ·rw[af hb2]at hy;cases hy;exact b2 a x ha hx
    ·rw[ah hb2]at hy;exact T.ri a (b-1) x y (by lia) hx hy
  ·rw[ah ha]at hx
   rw[ah (by lia),ah (by lia)]at hy;by_cases ha2:a=p
   ·rw[af ha2]at hx;cases hx
    have:=b3 (b-1) y (by lia) hy;rcases Nat.lt_or_eq_of_le this with q | q
    ·exact q
    ·exact absurd ⟨b-1,by rw[q];exact hy⟩ he
   ·rw[ah ha2]at hx;exact T.ri (a-1) (b-1) x y (by lia) hx hy
 ·have hx:(t.put j).1.place[i]?=some x:=hx
  rw[pl,get]at hx;show x<=t.mask;by_cases h1:i<p
  ·rw[af h1]at hx;exact T.le i x hx
  ·rw[ah h1]at hx
   by_cases h2:i=p
   ·rw[af h2]at hx;cases hx;exact hj
   ·rw[ah h2]at hx;exact T.le _ x hx
 ·show(t.put j).1.place.size=_;rw[pl,tX,cL,tX,T.sz];simp
 ·show(t.put j).1.place.size<=t.mask;rw[pl,tX];exact hr
 ·have hx:(t.put j).1.place[i]?=some x:=hx
  rw[bU,gh]at hh;rw[pl,get]at hx;show Reach t.mask h' _ x;by_cases h1:i<p
  ·rw[af h1]at hx hh;exact(T.rc i x h' hx (by simpa using hh)).mono old
  ·rw[ah h1]at hx hh
   by_cases h2:i=p
   ·rw[af h2]at hx hh;cases hx;cases hh;exact⟨e,hjj,λ m hm=>old _ (hb m hm)⟩
   ·rw[ah h2]at hx hh;exact(T.rc (i-1) x h' hx (by simpa using hh)).mono old
def wZ (owner:Array (iA Nat))(x:Nat):Prop:=∃ i:Nat,owner[x]?=some (some i)
theorem getD_none {owner:Array (iA Nat)}{x:Nat}(hx:x<owner.size):(owner.getD x (some 0)).isNone=true↔¬ wZ owner x:=by
 rw[bK];have e:owner[x]?=some owner[x]:=by simp[hx]
 rw[e,ft];unfold wZ;rw[e];cases owner[x] with
 | none=>simp
 | some i=>simp
theorem qz {mask i:Nat}(hi:i<=mask):SetTable.runEnd mask i<=mask/\i<=SetTable.runEnd mask i:=by unfold SetTable.runEnd;split<;>lia
theorem Gu {mask:Nat}{owner:Array (iA Nat)}(hsz:owner.size=mask+1){h:Int}:∀ (fuel i perturb n0:Nat),walk mask (st mask h) n0=bdy mask i perturb->i<=mask->(∀ m,m<n0->wZ owner (walk mask (st mask h) m).j) ->
  (∃ L,L<fuel/\¬ wZ owner (lp mask i perturb L).1)->∃ j,SetTable.layClean.free mask owner fuel i perturb=some j/\¬ wZ owner j/\j<=mask/\Reach mask h (wZ owner) j
 | 0,i,perturb,n0,_,_,_,⟨L,hL,_⟩=>absurd hL (eA _)
 | fuel+1,i,perturb,n0,hw,hi,hb,⟨L,hL,hl⟩=>by
  obtain⟨r1,r2⟩:=qz hi;have at_k:∀ k,k<=SetTable.runEnd mask i-i->(walk mask (st mask h) (n0+k)).j=i+k:=λ k hk=>by rw[<-tW,hw,EX mask i perturb k hk]
  unfold SetTable.layClean.free;cases q:(List.range (SetTable.runEnd mask i+1-i)).find? λ k=>(owner.getD (i+k) (some 0)).isNone with
  | some k =>
   obtain⟨q1,q2,q3⟩:=List.find?_range_eq_some.mp q;have q2:=aw.mp q2;refine⟨i+k,rfl,(getD_none (by lia)).mp q1,by lia,n0+k,at_k k (by lia),λ m hm=>?_⟩;by_cases h1:m<n0
   ·exact hb m h1
   ·obtain⟨c,rfl⟩:∃ c,m=n0+c:=⟨m-n0,by lia⟩;rw[at_k c (by lia)];refine aR λ hn=>?_;have:=q3 c (by lia);rw[(getD_none (by lia)).mpr hn]at this;simp at this
  | none =>
   have all:=List.find?_range_eq_none.mp q;have occ:∀ k,k<=SetTable.runEnd mask i-i->wZ owner (i+k):=λ k hk=>by refine aR λ hn=>?_;have:=all k (by lia);rw[(getD_none (by lia)).mpr hn]at this;simp at this
   dsimp only;refine Gu hsz fuel _ _ (n0+(SetTable.runEnd mask i-i+1)) ?_ ?_ (λ m hm=>?_) ?_
   ·rw[<-tW,hw,CT]
   ·exact cP (fY _ (g_ _))
   ·by_cases h1:m<n0
    ·exact hb m h1
    ·obtain⟨c,rfl⟩:∃ c,m=n0+c:=⟨m-n0,by lia⟩;rw[at_k c (by lia)];exact occ c (by lia)
   ·cases L with
    | zero=>exact absurd (occ 0 (bg _)) hl
    | succ L =>refine⟨L,by lia,?_⟩;have e:=EY mask i perturb 1 L;rw[Nat.add_comm 1 L]at e;rw[e]at hl;exact hl
structure EZ (mask:Nat)(hs:List Int)(k:Nat)(owner:Array (iA Nat)):Prop where
 sz:owner.size=mask+1
 lt:∀ (j i:Nat),owner[j]?=some (some i)->i<k
 one:∀ (i:Nat),i<k->∃ j:Nat,owner[j]?=some (some i)
 inj:∀ (j j' i:Nat),owner[j]?=some (some i)->owner[j']?=some (some i)->j=j'
 rc:∀ (j i:Nat) (h:Int),owner[j]?=some (some i)->hs[i]?=some h->Reach mask h (wZ owner) j
theorem EZ.room {mask:Nat}{hs:List Int}{k:Nat}{owner:Array (iA Nat)}(O:EZ mask hs k owner)(hk:k<=mask):∃ j,j<=mask/\¬ wZ owner j:=by
 refine aR λ hn=>?_;have all:∀ j,j<=mask->wZ owner j:=λ j hj=>aR λ h=>hn ⟨j,hj,h⟩;let f:Nat->Nat:=λ j=>((owner[j]?).getD none).getD 0;have hf:∀ j,j<=mask->owner[j]?=some (some (f j)):=λ j hj=>by obtain⟨i,e⟩:=all j hj;show owner[j]?=some (some (((owner[j]?).getD none).getD 0));rw[e];rfl
 have nd:((List.range (mask+1)).map f).Nodup:=by rw[bc,cy];refine(bc.mp bj).imp_of_mem λ{a b} ha hb ne e=>ne ?_;have ha:=hf a (cP (aw.mp ha));have hb:=hf b (cP (aw.mp hb));rw[e]at ha;exact O.inj a b _ ha hb
 have:=ya _ (List.range k) nd λ x hx=>by obtain⟨j,hj,e⟩:=aD.mp hx;rw[<-e];exact aw.mpr (O.lt j _ (hf j (cP (aw.mp hj))))
 simp at this;lia
set_option tactic.hygienic true in
theorem CV {mask:Nat}(m:Mk mask)(hs:List Int)(hn:hs.length<=mask):∀ (rest pre:List Int) (owner:Array (iA Nat)),hs=pre++rest->EZ mask hs pre.length owner ->
  ∃ owner',(rest.foldl (λ(acc:iA (Array (iA Nat)×Nat)) h=>do
   let (owner,k)<-acc;let j<-SetTable.layClean.free mask owner (SetTable.turns mask) (SetTable.bits h % (mask+1)) (SetTable.bits h)
   pure (owner.setIfInBounds j (some k),k+1)) (some (owner,pre.length)))=some (owner',hs.length)/\EZ mask hs hs.length owner'
 | [],pre,owner,e,O=>by rw[cF]at e;subst e;exact⟨owner,rfl,O⟩
 | h::rest,pre,owner,e,O=>by
  have hl:pre.length<hs.length:=by rw[e];simp
  obtain⟨j0,hj0,hn0⟩:=O.room (by lia);obtain⟨L,hL,eL⟩:=JN m _ (bits_le mask h) h hj0;obtain⟨j,hf,nj,hj,rj⟩:=Gu O.sz (h:=h) (SetTable.turns mask) _ _ 0 rfl (bits_le mask h) (λ m hm=>absurd hm (eA _)) ⟨L,hL,by rw[eL];exact hn0⟩;have hjs:j<owner.size:=by rw[O.sz];lia
  have get:∀ x:Nat,(owner.setIfInBounds j (some pre.length))[x]?=if j=x then some (some pre.length) else owner[x]?:=λ x=>by
   rw[Array.getElem?_setIfInBounds];by_cases q:j=x
   ·subst q;simp[hjs]
   ·simp[q]
  have mono:∀ x,wZ owner x->wZ (owner.setIfInBounds j (some pre.length)) x:=λ x ⟨i,hx⟩=>by
   by_cases q:j=x
   ·exact⟨_,by rw[get,af q]⟩
   ·exact⟨i,by rw[get,ah q];exact hx⟩
  have O':EZ mask hs (pre++[h]).length (owner.setIfInBounds j (some pre.length)):=by
   rw[aT,bF];refine⟨by rw[Array.size_setIfInBounds];exact O.sz,λ x i hx=>?_,λ i hi=>?_,λ x y i hx hy=>?_,λ x i h' hx hh=>?_⟩
   ·rw[get]at hx
    split at hx
    ·cases hx;lia
    ·have:=O.lt x i hx;lia
   ·by_cases q:i=pre.length
    ·exact⟨j,by rw[get,af rfl,q]⟩
    ·obtain⟨x,hx⟩:=O.one i (by lia);exact⟨x,by rw[get,ah (λ z=>nj ⟨i,by rw[z];exact hx⟩)];exact hx⟩
   ·rw[get]at hx hy
    split at hx
    ·cases hx
     split at hy
     ·lia
     ·exact absurd (O.lt y _ hy) (bD _)
    ·split at hy
     ·cases hy;exact absurd (O.lt x _ hx) (bD _)
     ·exact O.inj x y i hx hy
   ·rw[get]at hx
    split at hx
    ·rename_i q
     cases hx;subst q;have:h'=h:=by rw[e,bS (ak _),Nat.sub_self]at hh;simpa using hh.symm
     subst this;exact rj.mono mono
    ·exact(O.rc x i h' hx hh).mono mono
  obtain⟨owner',e',O''⟩:=CV m hs hn rest (pre++[h]) _ (by rw[e,eJ];rfl) O';refine⟨owner',?_,O''⟩;rw[cG,<-e'];congr 1;show(do let j<-SetTable.layClean.free mask owner (SetTable.turns mask) (SetTable.bits h % (mask+1)) (SetTable.bits h);pure (owner.setIfInBounds j (some pre.length),pre.length+1))=_;rw[hf,aT,bF];rfl
theorem PX {mask:Nat}(m:Mk mask)(hs:List Int)(hn:hs.length<=mask):∃ owner,SetTable.layClean mask hs.toArray=some owner/\EZ mask hs hs.length owner:=by
 have O0:EZ mask hs ([]:List Int).length (Array.replicate (mask+1) none):=by
  have no:∀ (x i:Nat),¬ (Array.replicate (mask+1) (none:iA Nat))[x]?=some (some i):=λ x i h=>by rw[Array.getElem?_replicate]at h;split at h<;>cases h
  exact⟨by simp,λ x i h=>(no x i h).elim,λ i hi=>absurd hi (eA _),λ x y i h=>(no x i h).elim,λ x i h' h=>(no x i h).elim⟩
 obtain⟨owner,e,O⟩:=CV m hs hn hs [] _ rfl O0;refine⟨owner,?_,O⟩;unfold SetTable.layClean;rw[List.foldl_toArray];have e:hs.foldl _ (some (Array.replicate (mask+1) none,0))=some (owner,hs.length):=e;rw[e];rfl
theorem E1 {α:Type}(hs:List α)(d:α):∀ (l:List Nat),(∀ i∈l,i<hs.length)->l.filterMap (λ i=>hs[i]?)=l.map λ i=>hs.getD i d
 | [],_=>rfl
 | i::r,h=>by
  have hi:=h i ar;rw[aq,<-E1 hs d r λ x hx=>h x (av _ hx),da];have e:hs[i]?=some (hs.getD i d):=by rw[au];simp[hi]
  rw[e]
theorem yb (owner:Array (iA Nat)):∀ (l:List Nat),(l.filterMap λ j=>(owner.getD j none).map (j,·)).map (·.1)=l.filter λ j=>(owner.getD j none).isSome
 | []=>rfl
 | j::r=>by
  rw[da,List.filter_cons];cases e:owner.getD j none with
  | none=>simpa using yb owner r
  | some i=>simpa using yb owner r
theorem Mx {mask:Nat}(m:Mk mask)(hs:List Int)(hn:hs.length<=mask)(finger moves:Nat)(led plain:Bool):∃ t order,SetTable.laid mask finger moves led plain hs.toArray=some (t,order)/\t.mask=mask/\t.led=led/\t.plain=plain /\
  List.Perm order.toList (List.range hs.length)/\TOk t (order.toList.filterMap λ i=>hs[i]?):=by
 obtain⟨owner,e,O⟩:=PX m hs hn;let live:=(List.range (mask+1)).filterMap λ j=>(owner.getD j none).map (j,·);have mem:∀ j i,(j,i)∈live↔j<=mask/\owner[j]?=some (some i):=λ j i=>by
  show(j,i)∈(List.range (mask+1)).filterMap _↔_;rw[eU];have gd:∀ (x y:Nat),owner.getD x none=some y↔owner[x]?=some (some y):=λ x y=>by
   rw[bK];cases owner[x]? with
   | none=>simp
   | some v=>simp
  refine⟨λ⟨a,ha,q⟩=>?_,λ⟨h1,h2⟩=>⟨j,aw.mpr (by lia),by rw[(gd j i).mpr h2];rfl⟩⟩;cases w:owner.getD a none with
  | none=>rw[w]at q;cases q
  | some y =>rw[w]at q;have q:(a,y)=(j,i):=aF q;cases q;exact⟨cP (aw.mp ha),(gd _ _).mp w⟩
 have fst:live.map (·.1)=(List.range (mask+1)).filter λ j=>(owner.getD j none).isSome:=yb owner _;have pw:(live.map (·.1)).Pairwise (·<·):=by rw[fst];exact List.Pairwise.filter _ List.pairwise_lt_range
 have pw2:live.Pairwise λ a b=>a.1<b.1:=cy.mp pw;have nd:(live.map (·.2)).Nodup:=by rw[bc,cy];refine pw2.imp_of_mem λ{a b} ha hb hlt e=>?_;have h1:=((mem a.1 a.2).mp ha).2;have h2:=((mem b.1 b.2).mp hb).2;rw[e]at h1;have:=O.inj _ _ _ h1 h2;lia
 have perm:List.Perm (live.map (·.2)) (List.range hs.length):=by refine(List.perm_ext_iff_of_nodup nd bj).mpr λ i=>?_;rw[aD,aw];refine⟨λ⟨a,ha,q⟩=>q▸O.lt _ _ ((mem a.1 a.2).mp ha).2,λ hi=>?_⟩;obtain⟨j,hj⟩:=O.one i hi;have:j<owner.size:=(cY.mp hj).1;exact⟨(j,i),(mem j i).mpr ⟨by rw[O.sz]at this;lia,hj⟩,rfl⟩
 have hlen:live.length=hs.length:=by have:=perm.length_eq;simpa using this
 refine⟨{mask,place:=(live.map (·.1)).toArray,dummies:=#[],finger,led,moves,plain},(live.map (·.2)).toArray,?_,rfl,rfl,rfl,perm,⟨m,rfl,?_,?_,?_,?_,?_⟩⟩
 ·unfold SetTable.laid;rw[e];rfl
 ·intro a b x y hab hx hy
  have hx:(live.map (·.1))[a]?=some x:=by simpa using hx
  have hy:(live.map (·.1))[b]?=some y:=by simpa using hy
  obtain⟨l1,e1⟩:=ba.mp hx;obtain⟨l2,e2⟩:=ba.mp hy;have:=dw.mp pw a b l1 l2 hab;rw[e1,e2]at this;exact this
 ·intro i j hx
  have hx:(live.map (·.1))[i]?=some j:=by simpa using hx
  obtain⟨a,ha,q⟩:=aD.mp (a8 hx);subst q;exact((mem a.1 a.2).mp ha).1
 ·show(live.map (·.1)).toArray.size=_;rw[E1 hs 0 _ λ i hi=>aw.mp (perm.mem_iff.mp hi)];simp
 ·show(live.map (·.1)).toArray.size<=mask;simp[hlen];lia
 ·intro i j h hx hh
  have hx:(live.map (·.1))[i]?=some j:=by simpa using hx
  rw[E1 hs 0 _ λ i hi=>aw.mp (perm.mem_iff.mp hi)]at hh;rw[ax]at hx;rw[ax,ax]at hh;cases w:live[i]? with
  | none=>rw[w]at hx;cases hx
  | some a =>
   rw[w]at hx hh;have hx:a.1=j:=aF hx;have hh:hs.getD a.2 0=h:=aF hh;have ha:=((mem a.1 a.2).mp (a8 w)).2;subst hx;refine(O.rc a.1 a.2 h ha ?_).mono λ x ⟨i',hx⟩=>?_
   ·have:=O.lt _ _ ha;rw[<-hh,au];simp[this]
   ·have hlt:x<owner.size:=(cY.mp hx).1;have hm:(x,i')∈live:=(mem x i').mpr ⟨by rw[O.sz]at hlt;lia,hx⟩;obtain⟨k,hk,ek⟩:=bV hm;refine⟨k,?_⟩;show(live.map (·.1)).toArray[k]?=some x;simp[hk,ek]
open PySem.Spec PyProof.Rows
section
variable {prog:Program}{w:World}{A:Around}{E:ir}{s:iH}{G:List Int->Addr->Prop}
abbrev m_ (prog:Program)(w:World)(h:Heap)(ks:List Int)(a:Addr):Prop:=IsTupleKey (intKind prog w) h ks a
theorem items_int {ks:List Int}{vs:List iG}(h:ItemsAre (intKind prog w) ks vs):∀ v∈vs,∃ i t,v=Value.int i t:=by
 induction h with
 | nil=>intro v hv;cases hv
 | cons h1 _ ih =>
  intro v hv;rcases aN.mp hv with rfl | hv
  ·obtain⟨t,e⟩:=fH h1;exact⟨_,t,e⟩
  ·exact ih v hv
theorem Ig {ks:List Int}{a:Addr}{Q:Bool->iH->Prop}(hk:m_ prog w s.heap ks a)(h:Q true s):wpAny (model prog w) A (hashByValue 8 (.ref a)) Q E s:=by
 have hT:=hk.typeIs;obtain⟨o,items,n,ho,_,hd,hi⟩:=hk;have hin:=items_int hi;unfold hashByValue;refine aa (wpAny_specialOf hT F.slot_tuple_hash.lookup ?_);dsimp only;refine aa (cZ ho hd ?_);refine aa ?_;show wpAny _ _ (forIn items _ _) _ _ s;rw[<-Array.forIn_toList];refine wpAny_forIn_list _ (λ rest r s'=>r.1=none/\s'=s/\∀ v∈rest,∃ i t,v=Value.int i t) _ ?_ ?_ _ _ ⟨rfl,rfl,hin⟩
 ·rintro v rest r s' ⟨hr,rfl,hall⟩;obtain⟨i,t,rfl⟩:=hall v ar;refine aa (ao ?_);simp only[dJ,aW,bY];exact ao ⟨rfl,rfl,λ u hu=>hall u (av _ hu)⟩
 ·rintro⟨r1,r2⟩ s' ⟨hr,rfl,_⟩;simp only at hr;subst hr;exact ao h
theorem Ay {ks:List Int}{a:Addr}{Q:Bool->iH->Prop}(hk:m_ prog w s.heap ks a)(h:Q false s):wpAny (model prog w) A (ofAClassStatement 8 (.ref a)) Q E s:=by
 have hT:=hk.typeIs;obtain⟨o,items,n,ho,_,hd,hi⟩:=hk;have hin:=items_int hi;unfold ofAClassStatement;refine aa (wpAny_typeOf hT ?_);dsimp only;rw[af (by decide)];refine aa (ao ?_);simp only[dJ,aW,bY];refine aa (cZ ho hd ?_);dsimp only;refine aa ?_;show wpAny _ _ (forIn items _ _) _ _ s;rw[<-Array.forIn_toList];refine wpAny_forIn_list _ (λ rest r s'=>r.1=none/\s'=s/\∀ v∈rest,∃ i t,v=Value.int i t) _ ?_ ?_ _ _ ⟨rfl,rfl,hin⟩
 ·rintro v rest r s' ⟨hr,rfl,hall⟩;obtain⟨i,t,rfl⟩:=hall v ar;refine aa (ao ?_);simp only[aW,bY];exact ao ⟨rfl,rfl,λ u hu=>hall u (av _ hu)⟩
 ·rintro⟨r1,r2⟩ s' ⟨hr,rfl,_⟩;simp only at hr;subst hr;exact ao h
theorem Mz {k:List Int}{b:Addr}{stored:List iG}{Q:Bool->iH->Prop}(hk:m_ prog w s.heap k b)(hs:∀ v∈stored,∃ c k',v=Value.ref c/\m_ prog w s.heap k' c)(h:Q false s):wpAny (model prog w) A (searchCouldBeSeen (.ref b) stored) Q E s:=by
 unfold searchCouldBeSeen;refine aa ?_;refine wpAny_forIn_list _ (λ rest r s'=>r.1=none/\s'=s/\∀ v∈rest,∃ c k',v=Value.ref c/\m_ prog w s.heap k' c) _ ?_ ?_ _ _ ⟨rfl,rfl,hs⟩
 ·rintro v rest r s' ⟨hr,rfl,hall⟩
  obtain⟨c,k',rfl,hc⟩:=hall v ar;have nxt:∀ v∈rest,∃ c k',v=Value.ref c/\m_ prog w s'.heap k' c:=λ u hu=>hall u (av _ hu);dsimp only;split
  ·exact ao ⟨rfl,rfl,nxt⟩
  ·refine aa (wpAny_eqIsQuiet_tuple hk ?_);simp only[dJ,aW,bY];refine aa (wpAny_eqIsQuiet_tuple hc ?_);simp only[dJ,aW,bY];refine aa (Ay hk ?_);simp only[aW,bY];refine aa (Ay hc ?_);simp only[aW,bY];exact ao ⟨rfl,rfl,nxt⟩
 ·rintro⟨r1,r2⟩ s' ⟨hr,rfl,_⟩;simp only at hr;subst hr;exact ao h
def vp (G:List Int->Addr->Prop)(prog:Program)(w:World)(h:Heap)(ks:List (List Int))(es:List (Int×iG)):Prop:=Paired (λ k e=>∃ b,e=(tupleKeyHash (intKind prog w) k,Value.ref b)/\m_ prog w h k b/\G k b) ks es
theorem vp.get {h:Heap}:∀ {ks:List (List Int)} {es:List (Int×iG)},vp G prog w h ks es->∀ (i:Nat) (e:Int×iG),es[i]?=some e->∃ k b,ks[i]?=some k/\e=(tupleKeyHash (intKind prog w) k,Value.ref b)/\m_ prog w h k b/\G k b
 := by
  intro ks es h;induction h with
  | nil=>intro i e q;simp at q
  | cons z r ih =>
    intro i e q;cases i with
    | zero =>rw[bE]at q;cases q;obtain⟨b,e1,hb⟩:=z;exact⟨_,b,rfl,e1,hb⟩
    | succ i =>rw[bh]at q;obtain⟨k,b,h1,h2⟩:=ih i e q;exact⟨k,b,by rw[bh];exact h1,h2⟩
theorem fits_of {t:SetTable}{hs:List Int}(T:TOk t hs){n:Nat}(hn:n=hs.length):t.fits n=true:=by unfold SetTable.fits SetTable.fill;have h1:=T.sz;have h2:=T.ro;have h3:=T.d;simp[h3,hn,h1];lia
theorem vZ {a:Addr}{o:Obj}{es:Array (Int×iG)}{ep:Nat}{t:SetTable}{ks:List (List Int)}{k:List Int}{b:Addr}{Q:SetFound->iH->Prop}(hu:A.units<cLine)
  (ho:s.heap.get? a=some o) (hd:o.data=.set es ep t) (T:TOk t (es.toList.map (·.1))) (En:vp G prog w s.heap ks es.toList) (hk:m_ prog w s.heap k b)
  {e:Nat} (he:¬ Occ t (walk t.mask (st t.mask (tupleKeyHash (intKind prog w) k)) e).j) (hb:∀ m,m<e->Occ t (walk t.mask (st t.mask (tupleKeyHash (intKind prog w) k)) m).j) (hf:e<10*SetTable.turns t.mask)
  (h1:k∈ks->Q (.there none) s) (h2:(∀ m,m<e->∀ i:Nat,t.place[i]?=some (walk t.mask (st t.mask (tupleKeyHash (intKind prog w) k)) m).j->ks[i]?≠some k)->Q (.free (walk t.mask (st t.mask (tupleKeyHash (intKind prog w) k)) e).j false) s) :
  ∀ (fuel n:Nat) (stand:iA SetTable.Probe),n<=e->e<n+fuel->stand.getD (t.probeStart (tupleKeyHash (intKind prog w) k))=walk t.mask (st t.mask (tupleKeyHash (intKind prog w) k)) n ->
   (∀ m,m<n->∀ i:Nat,t.place[i]?=some (walk t.mask (st t.mask (tupleKeyHash (intKind prog w) k)) m).j->ks[i]?≠some k)->wpAny (model prog w) A (setSearchFrom a (.ref b) (tupleKeyHash (intKind prog w) k) true fuel stand) Q E s
 | 0,n,stand,a1,a2,_,_=>by lia
 | fuel+1,n,stand,a1,a2,a3,a4=>by
  have hfit:=fits_of T (n:=es.size) (by simp);unfold setSearchFrom;refine aa (cA ho hd hfit ?_);dsimp only;have hgw:t.gaveWay=false:=by unfold SetTable.gaveWay;rcases T.m with z | z | z<;>rw[z]<;>decide
  rw[hgw];simp only[aW,bY];rw[a3];generalize hpr:SetTable.probe t _ (tupleKeyHash (intKind prog w) k) _=r;obtain⟨f,hff,hpr⟩:∃ f:Nat->Int,(∀ i,f i=((es[i]?.map (·.1)).getD 0))/\SetTable.probe t f (tupleKeyHash (intKind prog w) k) (walk t.mask (st t.mask (tupleKeyHash (intKind prog w) k)) n)=r:=⟨_,λ _=>rfl,hpr⟩;unfold SetTable.probe at hpr;have keyOf:∀ (i j:Nat),t.place[i]?=some j->∃ k' b',ks[i]?=some k'/\es[i]?=some (tupleKeyHash (intKind prog w) k',Value.ref b')/\m_ prog w s.heap k' b':=λ i j hj=>by
   have hi:i<es.size:=by have:=(cY.mp hj).1;rw[T.sz]at this;simpa using this
   obtain⟨k',b',q1,q2,q3⟩:=En.get i es[i] (by simp[hi]);exact⟨k',b',q1,by rw[<-q2];simp[hi],q3.1⟩
  have skipN:∀ m,(∀ i:Nat,t.place[i]?=some (walk t.mask (st t.mask (tupleKeyHash (intKind prog w) k)) m).j->f i≠tupleKeyHash (intKind prog w) k)->∀ i:Nat,t.place[i]?=some (walk t.mask (st t.mask (tupleKeyHash (intKind prog w) k)) m).j->ks[i]?≠some k:=λ m hm i hi hki=>by obtain⟨k',b',q1,q2,_⟩:=keyOf i _ hi;rw[q1]at hki;cases hki;exact hm i hi (by rw[hff,q2];rfl)
  rcases CU T (hashAt:=f) he hb (10*SetTable.turns t.mask) n a1 (by lia) with⟨p1,p2⟩ | ⟨m,i,b1,b2,b3,b4,b5,b6⟩
  ·rw[p1]at hpr
   subst hpr;dsimp only;refine ao (h2 λ m hm=>?_);by_cases hmn:m<n
   ·exact a4 m hmn
   ·exact skipN m (p2 m (by lia) hm)
  ·rw[b6]at hpr
   subst hpr;dsimp only;obtain⟨k',b',q1,q2,q3⟩:=keyOf i _ b3;have cont:wpAny (model prog w) A (do
     let some (_,y):=es[i]? | unsupported "internal:set-entry"
     let equal<-holding [y] (eqBool y (.ref b));let (es',_,t')<-setState a
     if true&&equal then return .there none
     let some same:=t'.sameMemory t.moves t.mask | unsupported "set.changed-during-lookup:is-the-new-block-at-the-old-address"
     let still<-match (if same then t'.slot (walk t.mask (st t.mask (tupleKeyHash (intKind prog w) k)) m).j else .empty) with
      | .live i'=>match es'[i']? with
       | some (_,y')=>do pure (if<-isSame y' y then some i' else none)
       | none=>pure none
      | _=>pure none
     match still with
     | none=>rule "set.search.anew";setSearchFrom a (.ref b) (tupleKeyHash (intKind prog w) k) true fuel none
     | some i'=>if equal then return .there (some i') else setSearchFrom a (.ref b) (tupleKeyHash (intKind prog w) k) true fuel (some (walk t.mask (st t.mask (tupleKeyHash (intKind prog w) k)) (m+1)))) Q E s:=by
    rw[q2];dsimp only;refine aa (dF (wpAny_eqBool_tuple hu q3 hk ?_));refine aa (cA ho hd hfit ?_);dsimp only;by_cases hkk:k'=k
    ·rw[decide_eq_true hkk];simp only[Bool.and_self,cM];exact ao (h1 (a8 (hkk▸q1)))
    ·rw[decide_eq_false hkk]
     simp only[gL,aW,bY];have hsm:t.sameMemory t.moves t.mask=some true:=by unfold SetTable.sameMemory;simp
     rw[hsm];dsimp only;simp only[cM];rw[vo T.ri b3];dsimp only;rw[q2];dsimp only;refine aa (wpAny_isSame_ref_self ?_);simp only[cM];refine aa (ao ?_);dsimp only;refine vZ hu ho hd T En hk he hb hf h1 h2 fuel (m+1) _ (by lia) (by lia) rfl λ m' hm'=>?_;by_cases c1:m'<n
     ·exact a4 m' c1
     ·by_cases c2:m'<m
      ·exact skipN m' (b5 m' (by lia) c2)
      ·have:m'=m:=by lia
       subst this;intro i' hi' hki';have:i'=i:=(below_at T.ri hi').symm.trans (below_at T.ri b3);rw[this,q1]at hki';exact hkk (aF hki')
   by_cases hled:t.led=true
   ·rw[hled];simp only[dJ,aW,bY];exact cont
   ·have hled:t.led=false:=by simpa using hled
    rw[hled];simp only[gM,cM];refine aa (Mz hk (λ v hv=>?_) ?_)
    ·obtain⟨ev,he1,he2⟩:=aD.mp hv
     have he3:ev∈es.toList:=by have:=he1;rw[Array.toList_filter]at this;exact(aY.mp this).1
     obtain⟨i',hi',ei'⟩:=bV he3;obtain⟨k'',b'',_,q5,q6⟩:=En.get i' ev (by rw[<-ei'];simp[hi']);rw[q5]at he2;exact⟨b'',k'',he2.symm,q6.1⟩
    ·simp only[aW,bY];exact cont
end
set_option tactic.hygienic true in
theorem Gv {mask:Nat}(h:Int):∀ n,(walk mask (st mask h) n).j+(walk mask (st mask h) n).more<=mask/\(walk mask (st mask h) n).i<=mask
 | 0=>by have h1:=bits_le mask h;have h2:=qz h1;show SetTable.bits h % (mask+1)+(SetTable.runEnd mask (SetTable.bits h % (mask+1))-SetTable.bits h % (mask+1))<=mask/\SetTable.bits h % (mask+1)<=mask;lia
 | n+1=>by
  obtain⟨h1,h2⟩:=Gv (mask:=mask) h n;show(adv mask (walk mask (st mask h) n)).j+(adv mask (walk mask (st mask h) n)).more<=mask/\(adv mask (walk mask (st mask h) n)).i<=mask;unfold adv;split
  ·rename_i hm;show(walk mask (st mask h) n).j+1+((walk mask (st mask h) n).more-1)<=mask/\(walk mask (st mask h) n).i<=mask;lia
  ·have h3:(SetTable.leap mask (walk mask (st mask h) n).i (walk mask (st mask h) n).perturb).1<=mask:=cP (fY _ (g_ _));have h4:=qz h3;dsimp only;lia
theorem JO {α:Type}(l:List α)(p:Nat)(x:α):(SetTable.insertAt l.toArray p x).toList=l.take p++x::l.drop p:=by rw[fy]
theorem v8 {α β:Type}{F:α->β->Prop}:∀ {xs:List α} {ys:List β} (n:Nat),Paired F xs ys->Paired F (xs.take n) (ys.take n)
 | _,_,0,_=>.nil
 | _,_,_+1,.nil=>.nil
 | _,_,n+1,.cons h t=>.cons h (v8 n t)
theorem v9 {α β:Type}{F:α->β->Prop}:∀ {xs:List α} {ys:List β} (n:Nat),Paired F xs ys->Paired F (xs.drop n) (ys.drop n)
 | _,_,0,h=>h
 | _,_,_+1,.nil=>.nil
 | _,_,n+1,.cons _ t=>v9 n t
theorem E2 {α β:Type}{F:α->β->Prop}:∀ {xs xs':List α} {ys ys':List β},Paired F xs ys->Paired F xs' ys'->Paired F (xs++xs') (ys++ys')
 := by
  intro xs xs' ys ys' h h';induction h with
  | nil=>exact h'
  | cons h t ih=>exact .cons h ih
theorem pK {α β:Type}{F G:α->β->Prop}(k:∀ a b,F a b->G a b):∀ {xs:List α} {ys:List β},Paired F xs ys->Paired G xs ys
 | _,_,.nil=>.nil
 | _,_,.cons h t=>.cons (k _ _ h) (pK k t)
theorem E3 {α β:Type}{F:α->β->Prop}:∀ {xs:List α} {ys:List β},Paired F xs ys->∀ (i:Nat) (x:α) (y:β),xs[i]?=some x->ys[i]?=some y->F x y
 := by
  intro xs ys h;induction h with
  | nil=>intro i x y h;simp at h
  | cons h t ih =>
    intro i x y e1 e2;cases i with
    | zero =>rw[bE]at e1 e2;cases e1;cases e2;exact h
    | succ i =>rw[bh]at e1 e2;exact ih i x y e1 e2
theorem pL {α β:Type}{F:α->β->Prop}{xs:List α}{ys:List β}(P:Paired F xs ys):∀ (l:List Nat),Paired F (l.filterMap λ i=>xs[i]?) (l.filterMap λ i=>ys[i]?)
 | []=>.nil
 | i::r=>by
  have hl:=P.length;rw[da,da];by_cases hi:i<xs.length
  ·have e1:xs[i]?=some xs[i]:=by simp[hi]
   have e2:ys[i]?=some (ys[i]'(by lia)):=by simp[show i<ys.length by lia]
   rw[e1,e2];exact .cons (E3 P i _ _ e1 e2) (pL P r)
  ·have e1:xs[i]?=none:=bq (by lia);have e2:ys[i]?=none:=bq (by lia);rw[e1,e2];exact pL P r
section
variable {prog:Program}{w:World}{A:Around}{E:ir}{s:iH}{G:List Int->Addr->Prop}
theorem Gw {h h':Heap}{k:List Int}{a b:Addr}{o:Obj}{es:Array (Int×iG)}{ep:Nat}{t:SetTable}(x:m_ prog w h k b)(ho:h.get? a=some o)(hd:o.data=.set es ep t)(sb:Heap.SameBut a h h'):m_ prog w h' k b:=by
 obtain⟨ob,its,n,e1,e2,e3,e4⟩:=x;have:b≠a:=by rintro rfl;rw[e1]at ho;cases ho;rw[e3]at hd;cases hd
 exact⟨ob,its,n,(sb.2 b this).trans e1,e2,e3,e4⟩
theorem vp.sb {h h':Heap}{ks:List (List Int)}{a:Addr}{l:List (Int×iG)}{o:Obj}{es:Array (Int×iG)}{ep:Nat}{t:SetTable}(x:vp G prog w h ks l)(ho:h.get? a=some o)(hd:o.data=.set es ep t)(sb:Heap.SameBut a h h'):vp G prog w h' ks l :=
 pK (λ k e ⟨b,e1,hb⟩=>⟨b,e1,Gw hb.1 ho hd sb,hb.2⟩) x
def JP (mask n:Nat):Prop:=(mask=7/\n<=4)\/(mask=31/\n<=18)\/(mask=127/\n<=76)
def yc (G:List Int->Addr->Prop)(prog:Program)(w:World)(h:Heap)(a:Addr)(ks:List (List Int)):Prop:=∃ o es ep t,h.get? a=some o/\o.ExactSet/\o.data=.set es ep t/\TOk t (es.toList.map (·.1))/\vp G prog w h ks es.toList/\t.plain=true/\t.led=!(w.params.followText "set-order")/\JP t.mask es.size/\ks.Nodup
theorem ye {h:Heap}{a:Addr}{o:Obj}{es es':Array (Int×iG)}{ep:Nat}{t t':SetTable}(ho:h.get? a=some o)(hd:o.data=.set es ep t):(h.update a (Obj.putSet es' t')).get? a=some {o with data:=.set es' (ep+1) t'}:=by have:=ed (Obj.putSet es' t') ho (by rw[putSet_of es' t' hd];rfl);rw[putSet_of es' t' hd]at this;exact this
theorem Ih {a:Addr}{o:Obj}{es:Array (Int×iG)}{ep:Nat}{t:SetTable}{ks:List (List Int)}{n:Nat}{Q:Unit->iH->Prop}(ho:s.heap.get? a=some o)(hx:o.ExactSet)(hd:o.data=.set es ep t)(T:TOk t (es.toList.map (·.1)))(En:vp G prog w s.heap ks es.toList)
  (hp:t.plain=true) (hl:t.led=!(w.params.followText "set-order")) (nd:ks.Nodup) (hm:Mk (SetTable.sizeAbove n-1)) (hn:JP (SetTable.sizeAbove n-1) es.size)
  (h:∀ h' ks',Heap.SameBut a s.heap h'->List.Perm ks' ks->yc G prog w h' a ks'->Q () {s with heap:=h'}):wpAny (model prog w) A (setRelay a n) Q E s:=by
 unfold setRelay;refine aa (cA ho hd (fits_of T (by simp)) ?_);dsimp only;have hsz:¬ SetTable.sizeAbove n>sizeLine:=by rw[sizeLine_eq];rcases hm with z | z | z<;>lia
 rw[ah hsz];have hes:es.size<=SetTable.sizeAbove n-1:=by rcases hn with⟨z,q⟩ | ⟨z,q⟩ | ⟨z,q⟩<;>lia
 obtain⟨t',order,e,m1,l1,p1,perm,T'⟩:=Mx hm (es.toList.map (·.1)) (by simpa using hes) t.finger (t.movedTo (SetTable.sizeAbove n-1)) t.led t.plain;have eL:t.relaid (es.map (·.1)) n=some (t',order):=by unfold SetTable.relaid;rw[<-e];congr 1;apply Array.ext';simp
 rw[eL];have hlen:(order.filterMap λ i=>es[i]?).size=es.size:=by
  have h1:(order.filterMap λ i=>es[i]?).toList=order.toList.filterMap λ i=>es.toList[i]?:=by simp
  have h2:(order.filterMap λ i=>es[i]?).toList.length=es.toList.length:=by rw[h1];have:=(perm.filterMap λ i=>es.toList[i]?).length_eq;rw[this];rw[ag];rw[c_]
  rw[cL,cL]at h2;exact h2
 refine aa ?_;show wpAny _ _ (do
  let es':=order.filterMap λ i=>es[i]?
  if (es'.size != es.size)=true then unsupported "internal:set-table-lost-an-element"
  pure (es',t')) _ _ _
 dsimp only;rw[hlen];simp only[bne_self_eq_false,aW,bY];refine ao ?_;dsimp only;have sb:=df s.heap a (Obj.putSet (order.filterMap λ i=>es[i]?) t');refine wpAny_storeSet_of ho hd (h _ (order.toList.filterMap λ i=>ks[i]?) sb ?_ ⟨_,_,_,_,ye ho hd,hx,rfl,?_,?_,p1.trans hp,l1.trans hl,?_,?_⟩) ?_
 ·have hkl:ks.length=es.toList.length:=En.length;have:=perm.filterMap λ i=>ks[i]?;rw[ag,<-hkl,c_]at this;exact this
 ·have e1:(order.filterMap λ i=>es[i]?).toList.map (·.1)=order.toList.filterMap λ i=>(es.toList.map (·.1))[i]?:=by
   rw[Array.toList_filterMap,List.map_filterMap];congr 1;funext i;simp
  rw[e1];exact T'
 ·have:vp G prog w _ ks es.toList:=En.sb ho hd sb;have q:=pL this order.toList;rw[Array.toList_filterMap];refine Eq.mp ?_ q;congr 1;congr 1;funext i;simp
 ·rw[m1,hlen];exact hn
 ·have hkl:ks.length=es.toList.length:=En.length;have:=perm.filterMap λ i=>ks[i]?;rw[ag,<-hkl,c_]at this;exact this.nodup_iff.mpr nd
 ·rw[hlen,sizeLine_eq];rcases hn with⟨z,q⟩ | ⟨z,q⟩ | ⟨z,q⟩<;>lia
theorem MA {a:Addr}{ks:List (List Int)}{k:List Int}{b:Addr}{Q:Bool->iH->Prop}(hu:A.units<cLine)(S:yc G prog w s.heap a ks)(hk:m_ prog w s.heap k b)(hg:G k b)(hn:ks.length<40)
  (h:∀ h' ks' c tk,Heap.SameBut a s.heap h'->yc G prog w h' a ks'->List.Perm ks' (if k∈ks then ks else k::ks)->Q c {s with heap:=h',toks:=tk}):wpAny (model prog w) A (setAdd a (.ref b)) Q E s:=by
 unfold setAdd;refine dF (aa (wpAny_pyHash_tuple hu hk ?_));show wpAny (model prog w) A (setAddHashed a (.ref b) (tupleKeyHash (intKind prog w) k)) Q E {s with toks:=s.toks+(k.length+1)};unfold setAddHashed;refine dF ?_;obtain⟨o,es,ep,t,ho,hx,hd,T,En,hp,hl,hr,nd⟩:=S;have hkl:ks.length=es.size:=by simpa using En.length
 have hfit:=fits_of T (n:=es.size) (by simp);unfold setAddHashedIn;refine aa (cA ho hd hfit ?_);dsimp only;have hbs:byScan (.ref b) es=false:=rfl;rw[hbs];simp only[aW,bY];obtain⟨e,he1,he2,he3⟩:=Ie T (tupleKeyHash (intKind prog w) k);refine aa ?_;unfold setSearch;refine vZ (s:={s with toks:=s.toks+(k.length+1)}) hu ho hd T En hk he2 he3 he1 (λ hin=>?_) (λ hno=>?_) 100000 0 none (bg _) ?_ rfl (λ m hm=>absurd hm (eA _))
 ·dsimp only;refine ao ?_;have:=h s.heap ks false (s.toks+(k.length+1)) (Heap.SameBut.refl a s.heap) ⟨o,es,ep,t,ho,hx,hd,T,En,hp,hl,hr,nd⟩ (by rw[af hin]);exact this
 ·have hnk:k∉ks:=λ hm=>by
   obtain⟨i,hi,ei⟩:=bV hm;have hki:ks[i]?=some k:=by rw[<-ei];simp[hi]
   have hie:i<es.size:=by lia
   obtain⟨k',b',q1,q2,q3⟩:=En.get i es[i] (by simp[hie]);rw[hki]at q1;cases q1;have hpl:i<t.place.size:=by rw[T.sz];simpa using hie
   have hpi:t.place[i]?=some t.place[i]:=by simp[hpl]
   obtain⟨n,r1,r2⟩:=T.rc i t.place[i] (tupleKeyHash (intKind prog w) k) hpi (by simp[hie,q2]);have hne:n<e:=by
    rcases gU n e with z | z | z
    ·exact z
    ·exact absurd ⟨i,by rw[<-z,r1];exact hpi⟩ he2
    ·exact absurd (r2 e z) he2
   exact hno n hne i (by rw[r1];exact hpi) hki
  dsimp only;refine aa (cA ho hd hfit ?_);dsimp only;have hj:=(Gv (mask:=t.mask) (tupleKeyHash (intKind prog w) k) e).1;have hro:t.place.size+1<=t.mask:=by have:=T.sz;rw[ag,cL]at this;rcases hr with⟨z,q⟩ | ⟨z,q⟩ | ⟨z,q⟩<;>lia
  have T1:=PV T he2 he3 (bf (eS _ _) hj) hro (led:=true) (plain:=true);generalize hjj:(walk t.mask (st t.mask (tupleKeyHash (intKind prog w) k)) e).j=j at *;have hpp:(t.put j).1.plain=true:=hp;rw[hpp];simp only[cM];refine aa (Ig (s:={s with toks:=s.toks+(k.length+1)}) hk ?_);simp only[cM];have ep2:(t.put j).2=SetTable.below t.place j:=rfl;rw[ep2];have tEq:({(t.put j).1 with plain:=true}:SetTable)=(t.put j).1:=by
   have:∀ (u:SetTable),u.plain=true->({u with plain:=true}:SetTable)=u:=λ u hu=>by cases u;cases hu;rfl
   exact this _ hpp
  rw[tEq]at T1;generalize hes1:SetTable.insertAt es (SetTable.below t.place j) (tupleKeyHash (intKind prog w) k,Value.ref b)=es1;have hl1:es1.toList=es.toList.take (SetTable.below t.place j)++(tupleKeyHash (intKind prog w) k,Value.ref b)::es.toList.drop (SetTable.below t.place j):=by rw[<-hes1,fy]
  have hs1:es1.size=es.size+1:=by rw[<-hes1,tX]
  have T2:TOk (t.put j).1 (es1.toList.map (·.1)):=by rw[JO]at T1;rw[hl1,a7,aq,List.map_take,List.map_drop];exact T1
  have sb1:=df s.heap a (Obj.putSet es1 (t.put j).1);have En1:vp G prog w (s.heap.update a (Obj.putSet es1 (t.put j).1)) (ks.take (SetTable.below t.place j)++k::ks.drop (SetTable.below t.place j)) es1.toList:=by rw[hl1];have q:=En.sb ho hd sb1;exact E2 (v8 _ q) (.cons ⟨b,rfl,Gw hk ho hd sb1,hg⟩ (v9 _ q))
  have pm:List.Perm (ks.take (SetTable.below t.place j)++k::ks.drop (SetTable.below t.place j)) (k::ks):=by have:=@List.perm_middle _ k (ks.take (SetTable.below t.place j)) (ks.drop (SetTable.below t.place j));rw[List.take_append_drop]at this;exact this
  have nd1:(ks.take (SetTable.below t.place j)++k::ks.drop (SetTable.below t.place j)).Nodup:=pm.nodup_iff.mpr (bx.mpr ⟨hnk,nd⟩);refine aa (wpAny_storeSet_of (s:={s with toks:=s.toks+(k.length+1)}) ho hd ?_ (by rw[hs1,sizeLine_eq];lia));have hpm:∀ ks',List.Perm ks' (ks.take (SetTable.below t.place j)++k::ks.drop (SetTable.below t.place j))->List.Perm ks' (if k∈ks then ks else k::ks):=λ ks' p=>by rw[ah hnk];exact p.trans pm
  by_cases hf:(t.put j).1.tooFull=true
  ·rw[hf]
   simp only[gM,Bool.and_self,cM];have hfill:(t.put j).1.fill=es.size+1:=by have h1:=T2.sz;have h2:=T2.d;unfold SetTable.fill;rw[h1,h2];simp[hs1]
   have hff:(es.size+1)*5≥t.mask*3:=by unfold SetTable.tooFull at hf;rw[hfill,show(t.put j).1.mask=t.mask from rfl]at hf;simpa using hf
   have hcase:(t.mask=7/\es.size=4)\/(t.mask=31/\es.size=18):=by
    rcases hr with⟨z,q⟩ | ⟨z,q⟩ | ⟨z,q⟩
    ·rw[z]at hff;exact .inl ⟨z,by lia⟩
    ·rw[z]at hff;exact .inr ⟨z,by lia⟩
    ·rw[z]at hff;lia
   have hsa:SetTable.sizeAbove (SetTable.grown (4+1))=32:=by decide
   have hsb:SetTable.sizeAbove (SetTable.grown (18+1))=128:=by decide
   refine aa (Ih (s:={s with heap:=s.heap.update a (Obj.putSet es1 (t.put j).1),toks:=s.toks+(k.length+1)}) (n:=SetTable.grown (es.size+1)) (ye ho hd) hx rfl T2 En1 hpp hl nd1 ?_ ?_ λ h2 ks2 sb2 p2 S2=>?_)
   ·rcases hcase with⟨_,z⟩ | ⟨_,z⟩
    ·rw[z,hsa];exact .inr (.inl rfl)
    ·rw[z,hsb];exact .inr (.inr rfl)
   ·rcases hcase with⟨_,z⟩ | ⟨_,z⟩
    ·rw[z,hsa,hs1,z];exact .inr (.inl ⟨rfl,by lia⟩)
    ·rw[z,hsb,hs1,z];exact .inr (.inr ⟨rfl,by lia⟩)
   ·exact ao (h h2 ks2 true _ (sb1.trans sb2) S2 (hpm _ p2))
  ·have hf':(t.put j).1.tooFull=false:=by simpa using hf
   rw[hf'];simp only[gL,aW,bY];have hfill:(t.put j).1.fill=es.size+1:=by have h1:=T2.sz;have h2:=T2.d;unfold SetTable.fill;rw[h1,h2];simp[hs1]
   have hff:¬ (es.size+1)*5≥t.mask*3:=by unfold SetTable.tooFull at hf';rw[hfill,show(t.put j).1.mask=t.mask from rfl]at hf';simpa using hf'
   refine ao (h _ _ true _ sb1 ⟨_,es1,_,(t.put j).1,ye ho hd,hx,rfl,T2,En1,hpp,hl,?_,nd1⟩ (hpm _ (ic _)));show JP t.mask es1.size;rw[hs1];rcases hr with⟨z,q⟩ | ⟨z,q⟩ | ⟨z,q⟩
   ·rw[z]at hff;exact .inl ⟨z,by lia⟩
   ·rw[z]at hff;exact .inr (.inl ⟨z,by lia⟩)
   ·rw[z]at hff;exact .inr (.inr ⟨z,by lia⟩)
 ·have:SetTable.turns t.mask<=142:=by
   unfold SetTable.turns;rcases T.m with z | z | z<;>lia
  lia
end
section
variable {prog:Program}{w:World}{A:Around}{E:ir}{s:iH}{G:List Int->Addr->Prop}
theorem rM {h h':Heap}{k:List Int}{b:Addr}(x:m_ prog w h k b)(kp:∀ o,h.get? b=some o->h'.get? b=some o):m_ prog w h' k b :=
 let ⟨o,its,n,e1,e2,e3,e4⟩:=x
 ⟨o,its,n,kp o e1,e2,e3,e4⟩
theorem vp.keep {h h':Heap}{ks:List (List Int)}{es:List (Int×iG)}(x:vp G prog w h ks es)(kp:∀ b o,h.get? b=some o->o.cls=.type "tuple"->h'.get? b=some o):vp G prog w h' ks es :=
 pK (λ k e ⟨b,e1,hb⟩=>⟨b,e1,rM hb.1 (λ o ho=>kp b o ho (by obtain⟨o',its,n,q1,q2,_⟩:=hb.1;rw[q1]at ho;cases ho;exact q2)),hb.2⟩) x
theorem yc.keep {h h':Heap}{a:Addr}{ks:List (List Int)}(S:yc G prog w h a ks)(ka:∀ o,h.get? a=some o->h'.get? a=some o)(kp:∀ b o,h.get? b=some o->o.cls=.type "tuple"->h'.get? b=some o):yc G prog w h' a ks :=
 by
 obtain⟨o,es,ep,t,ho,hx,hd,T,En,r⟩:=S;exact⟨o,es,ep,t,ka o ho,hx,hd,T,En.keep kp,r⟩
theorem JQ {R:Result->iH->Prop}(hh:A.in1.handled=none)(hu:A.in1.units<cLine){S I l:Addr}{items:Array iG}{kk:List (List Int)}(hk:kk.length=items.size)(h40:items.size<=40)(n1:S≠I)(n2:S≠l)(n3:l≠I) :
  ∀ (n i:Nat) (s:iH) (ks:List (List Int)),items.size-i=n->i<=items.size->s.heap.IsListIter I l i->s.heap.IsList l items->yc G prog w s.heap S ks ->
   (∀ (j:Nat) v,items[j]?=some v->∃ k b,kk[j]?=some k/\v=.ref b/\m_ prog w s.heap k b/\G k b)->ks.length<=i->(∀ k,k∈ks↔k∈kk.take i) ->
   (∀ h' tk ks',(∀ b o,b≠S->b≠I->s.heap.get? b=some o->h'.get? b=some o)->yc G prog w h' S ks'->(∀ k,k∈ks'↔k∈kk)->R (.ok (.ret .none)) {s with heap:=h',toks:=tk}) ->
   codeAny (model prog w) A (.builtin "set.update.loop" ⟨[.ref S,.ref I],[]⟩) R s:=by
 intro n;induction n using Nat.strongRecOn with
 | ind n ih =>
  intro i s ks hn hi st hl hS hv hlen hm fin;refine codeAny_builtin F.entry_set_update_loop ?_;rw[Around.under_plainId F.plain_set_update_loop _];have tupI:∀ {h h':Heap} {b:Addr} {o:Obj} {x:Addr} {j:Nat},h.IsListIter x l j->h.get? b=some o->o.cls=.type "tuple"->b≠x:=λ hit e c z=>by obtain⟨o',e',c',_⟩:=hit;rw[z,e']at e;cases e;rw[c']at c;injection c with c;exact absurd c (by decide)
  by_cases hlt:i<items.size
  ·show wpAny _ A.in1 (pyNext (.ref I)>>=_) _ _ s
   refine aa (wpAny_pyNext_list_item st hl (x:=items[i]) (by simp[hlt]) λ h' st' sb=>?_);obtain⟨k,b,hkk,eb,tb,gb⟩:=hv i items[i] (by simp[hlt]);rw[eb];have bI:b≠I:=by obtain⟨o,its,m,q1,q2,_⟩:=tb;exact tupI (h':=h') st q1 q2
   have S1:yc G prog w h' S ks:=hS.keep (λ o e=>(sb.2 S n1).trans e) λ c o e hc=>(sb.2 c (tupI (h':=h') st e hc)).trans e;have tb1:m_ prog w h' k b:=rM tb λ o e=>(sb.2 b bI).trans e;refine aa (dF (MA (s:={s with heap:=h'}) hu S1 tb1 gb (by lia) λ h2 ks2 c tk sb2 S2 p2=>?_));have keep2:∀ x o,x≠S->x≠I->s.heap.get? x=some o->h2.get? x=some o:=λ x o x1 x2 e=>(sb2.2 x x1).trans ((sb.2 x x2).trans e);refine ao ⟨plainId_quiet F.plain_set_update_loop _,?_⟩;have mem2:∀ k',k'∈ks2↔k'∈kk.take (i+1):=λ k'=>by
    rw[p2.mem_iff,List.take_add_one,hkk,bG,<-hm k'];by_cases hin:k∈ks
    ·rw[af hin];simp only[Option.toList_some,aN,cv,or_false];exact⟨.inl,λ z=>z.elim id λ z=>z▸hin⟩
    ·rw[ah hin];simp only[Option.toList_some,aN,cv,or_false];exact⟨λ z=>z.symm,λ z=>z.symm⟩
   have len2:ks2.length<=i+1:=by
    rw[p2.length_eq];split
    ·lia
    ·rw[aQ];lia
   obtain⟨ol,hol,hcl,m,hdl⟩:=id hl;refine ih (n-1) (by lia) (i+1) {s with heap:=h2,toks:=tk} ks2 (by lia) hlt ?_ ⟨ol,keep2 l ol n2.symm n3 hol,hcl,m,hdl⟩ S2 (λ j v hj=>?_) len2 mem2 λ h3 tk3 ks3 kp3 S3 m3=>?_
   ·obtain⟨oI,eI,cI,dI⟩:=st';exact⟨oI,(sb2.2 I n1.symm).trans eI,cI,dI⟩
   ·obtain⟨k',b',q1,q2,q3,g3⟩:=hv j v hj
    refine⟨k',b',q1,q2,rM q3 λ o e=>?_,g3⟩;have c1:b'≠I:=by obtain⟨o',its,m,z1,z2,_⟩:=q3;exact tupI (h':=h') st z1 z2
    have c2:b'≠S:=by rintro rfl;obtain⟨oS,es,ep,t,z1,_,z2,_⟩:=hS;obtain⟨o',its,m,y1,_,y3,_⟩:=q3;rw[z1]at y1;cases y1;rw[z2]at y3;cases y3
    exact keep2 b' o c2 c1 e
   ·exact fin h3 tk3 ks3 (λ x o x1 x2 e=>kp3 x o x1 x2 (keep2 x o x1 x2 e)) S3 m3
  ·have e:i=items.size:=by lia
   show wpAny _ A.in1 (pyNext (.ref I)>>=_) _ _ s;refine aa (wpAny_pyNext_list_end hh st hl (eX (gG e.symm)) λ h' eb=>?_);show wpAny _ A.in1 (ret Value.none) _ _ _;refine ao (fin h' s.toks ks (λ x o _ x2 q=>eb x o x2 q) (hS.keep (λ o q=>eb S o n1 q) λ c o q hc=>eb c o (tupI (h':=h') st q hc) q) λ k=>?_);rw[hm k,e,<-hk,fu]
theorem MB {a:iG}{Q₁:ir}(h:Q₁ (.ref s.heap.objs.size) {s with heap:=s.heap.push {cls:=.type "set",dict:=none,data:=.set #[] 0 (.fresh 0 0 (!(w.params.followText "set-order")))}}) :
  codeAny (model prog w) A (.call (.builtin "set.__new__") ⟨[.type "set",a],[]⟩) (wants Q₁ E) s:=by
 refine codeAny_of_tree ?_;show wpAny _ A.in1 (checkBuiltinCall "set.__new__" ⟨[.type "set",a],[]⟩>>=λ _=>again (.builtin "set.__new__" ⟨[.type "set",a],[]⟩)) _ _ s;refine aa (wpAny_of_eq (F.newCall_set_1 a) ?_);refine ao ⟨plainId_quiet F.plain_set_new _,codeAny_builtin F.entry_set_new ?_⟩;rw[Around.under_plainId F.plain_set_new _];unfold Builtin.«set.__new__» Builtin.Frozenset.newClass;have hsub:=sub_set_self;obtain⟨hp,g,d,tk,os⟩:=s;dsimp only
 wp_walk
 refine wpAny_askSetting (ao ?_);dsimp only;simp only[newObj];refine aa (wpAny_alloc (ao ?_));exact ao h
theorem CW {l:Addr}{items:Array iG}{kk:List (List Int)}{Q:ir}(hh:A.handled=none)(hu:A.units+40<cLine)(hl:s.heap.IsList l items)(hk:kk.length=items.size)(h40:items.size<=40)
  (hv:∀ (j:Nat) v,items[j]?=some v->∃ k b,kk[j]?=some k/\v=.ref b/\m_ prog w s.heap k b/\G k b)
  (h:∀ h' tk ks,(∀ b o,b<s.heap.objs.size->s.heap.get? b=some o->h'.get? b=some o)->yc G prog w h' s.heap.objs.size ks->(∀ k,k∈ks↔k∈kk)->Q (.ref s.heap.objs.size) {s with heap:=h',toks:=tk}) :
  wpAny (model prog w) A (call (.type "set") [.ref l]) Q E s:=by
 obtain⟨c0,tl0,hmro⟩:=eY.mro;have hmade:=eY.made;have hsub:=eY.sub;refine wpAny_call (codeAny_of_tree ?_);show wpAny _ _ (callAny (.type "set") _) _ _ _;refine ao ⟨Code.quiet_builtin _ (by decide +kernel),codeAny_builtin F.entry_type_call ?_⟩;rw[Around.under_plain (weight_type_call_type "set" [.ref l] []) rfl];have hnt:=eY.notType;have hcc:=eY.canCreate;have hct:=F.typeCall_set_1 (.ref l);repeat (any_goals (first | assumption | wp_step))
 refine codeAny_mono (MB (a:=.ref l) (E:=E) (Q₁:=λ obj s₁=>obj=.ref s.heap.objs.size/\s₁={s with heap:=s.heap.push {cls:=.type "set",dict:=none,data:=.set #[] 0 (.fresh 0 0 (!(w.params.followText "set-order")))}}) ⟨rfl,rfl⟩) λ r s₁ hr=>?_;cases r with
 | error e=>exact hr
 | ok fl =>
  cases fl with
  | ret obj =>
   obtain⟨rfl,rfl⟩:=hr;generalize hN0:({cls:=.type "set",dict:=none,data:=.set #[] 0 (.fresh 0 0 (!(w.params.followText "set-order")))}:Obj)=N0;have hS:(s.heap.push N0).get? s.heap.objs.size=some N0:=aS _ (by rw[<-hN0];rfl);have hT:Shared.TypeIs {s with heap:=s.heap.push N0} (.ref s.heap.objs.size) "set":=⟨_,hS,by rw[<-hN0]⟩;have hli:=eY.init.lookup;have hbi:=eY.init.bind (.ref s.heap.objs.size);repeat (any_goals (first | assumption | wp_step))
   refine codeAny_mono (codeAny_call_builtin (R:=wants (λ r s₂=>r=.none/\∃ h' tk ks,s₂={s with heap:=h',toks:=tk}/\yc G prog w h' s.heap.objs.size ks/\(∀ k,k∈ks↔k∈kk)/\(∀ b o,b<s.heap.objs.size->s.heap.get? b=some o->h'.get? b=some o)) E)
    eY.init.plain F.entry_set_init (check_set_init_1 hT ?_)) λ r₂ s₂ hr₂=>?_
   ·obtain⟨ol,hol,hcl,nl,hdl⟩:=id hl
    obtain⟨ocls,odict,odata,oslots⟩:=ol;simp only at hcl hdl;subst hcl;subst hdl;have hol':(s.heap.push N0).get? l=some {cls:=.type "list",dict:=odict,data:=.seq items nl,slots:=oslots}:=ai _ hol;have hsls:=F.sub_list_set;have hslf:=F.sub_list_frozenset;have hne:(Value.type "list"==Value.type "dict")=false:=by decide
    have hl1:(s.heap.push N0).IsList l items:=⟨_,hol',rfl,nl,rfl⟩;have hS0:(s.heap.push N0).get? s.heap.objs.size=some {cls:=.type "set",dict:=none,data:=.set #[] 0 (.fresh 0 0 (!(w.params.followText "set-order")))}:=by rw[hS,hN0]
    unfold Builtin.«set.__init__» noKeywords Builtin.Frozenset.updateFrom;generalize hPI:pyIter=PI
    wp_walk
    subst hPI;refine fJ hl1 ?_;refine aa (wpAny_runValue ?_);have hlS:l<s.heap.objs.size:=aE hol;have szP:(s.heap.push N0).objs.size=s.heap.objs.size+1:=cQ ..;have keep:∀ b o,s.heap.get? b=some o->((s.heap.push N0).push {cls:=.type "list_iterator",data:=.fields #[.ref l,.int 0 0]}).get? b=some o:=λ b o e=>ai _ (ai _ e);refine JQ (G:=G) (A:=A.in1.in1) (by simp[hh]) (bR (show A.units+3<=A.units+40 by lia) hu) hk h40 (by rw[szP];exact bw (g6 _)) (cX hlS) (by rw[szP];exact bw (fK hlS)) items.size 0 _ [] (by lia) (bg _)
     ⟨_,aS _ rfl,rfl,rfl⟩ (hl1.push _) ⟨_,#[],0,.fresh 0 0 (!(w.params.followText "set-order")),ai _ hS0,⟨rfl,rfl,rfl⟩,rfl,?_,.nil,rfl,rfl,.inl ⟨rfl,bg _⟩,List.nodup_nil⟩ (λ j v hj=>?_) (ak _) (by simp) λ h' tk ks kp S' m'=>?_
    ·exact⟨.inl rfl,rfl,λ a b x y _ e=>by simp[SetTable.fresh]at e,λ i j e=>by simp[SetTable.fresh]at e,rfl,bg _,λ i j h e=>by simp[SetTable.fresh]at e⟩
    ·obtain⟨k,b,q1,q2,q3,g3⟩:=hv j v hj;exact⟨k,b,q1,q2,rM q3 (λ o e=>keep b o e),g3⟩
    ·show wpAny _ _ _ _ _ _;refine ao ?_;show wpAny _ _ (ret Value.none) _ _ _;refine ao ⟨rfl,h',tk,ks,rfl,S',m',λ b o hb e=>kp b o (bw hb) (by rw[szP];exact bw (fK hb)) (keep b o e)⟩
   ·cases r₂ with
    | error e=>exact hr₂
    | ok fl₂ =>
     cases fl₂ with
     | ret r =>
      obtain⟨rfl,h',tk,ks,rfl,S',m',kp⟩:=hr₂;repeat (any_goals (first | assumption | wp_step))
      exact h _ _ _ kp S' m'
     | _=>exact hr₂.elim
  | _=>exact hr.elim
end
end Tb
namespace Tb
open PySem PySem.W PyProof.Rows
def Tr {α:Type}(n:Nat)(c:Nat->Nat->Bool)(R:α->Prop):KasT α->Prop
 | .ret a=>R a
 | .ask i j k=>i<n/\j<n/\Tr n c R (k (c i j))
section
variable {n:Nat}{c:Nat->Nat->Bool}
theorem Tr.wp {α:Type}{cmp:Nat->Nat->(Bool->iH->Prop)->iH->Prop}{s:iH}{R:α->Prop}{Q:α->iH->Prop}(hc:∀ i j C,i<n->j<n->C (c i j) s->cmp i j C s)(hq:∀ a,R a->Q a s):∀ (t:KasT α),Tr n c R t->t.kasWp cmp Q s
 | .ret a,h=>hq a h
 | .ask i j k,⟨h1,h2,h3⟩=>hc i j _ h1 h2 (Tr.wp hc hq (k (c i j)) h3)
theorem Tr.bnd {α β:Type}{R:α->Prop}{R':β->Prop}{f:α->KasT β}(hf:∀ a,R a->Tr n c R' (f a)):∀ (t:KasT α),Tr n c R t->Tr n c R' (t.bind f)
 | .ret a,h=>hf a h
 | .ask i j k,⟨h1,h2,h3⟩=>⟨h1,h2,Tr.bnd hf (k (c i j)) h3⟩
end
section
variable {n:Nat}{O:KeyOrd}{X:Nat->O.α}
def Kp (X:Nat->O.α)(p:Array Nat)(i:Nat):O.α:=X (p.getD i 0)
def Pm (n:Nat)(p:Array Nat):Prop:=0<n/\List.Perm p.toList (List.range n)
theorem Pm.lt {p:Array Nat}(h:Pm n p)(i:Nat):p.getD i 0<n:=by
 rw[bK];cases e:p[i]? with
 | none=>exact h.1
 | some x =>rw[<-bU]at e;exact aw.mp (h.2.mem_iff.mp (a8 e))
theorem Pm.size {p:Array Nat}(h:Pm n p):p.size=n:=by have:=h.2.length_eq;simpa using this
theorem Pm.perm {p p':Array Nat}(h:Pm n p)(q:p'.Perm p):Pm n p':=⟨h.1,(Array.perm_iff_toList_perm.mp q).trans h.2⟩
def Sor (X:Nat->O.α)(p:Array Nat)(k:Nat):Prop:=∀ i j,i<=j->j<k->O.kle (Kp X p i) (Kp X p j)
def Non (X:Nat->O.α)(p:Array Nat)(k:Nat):Prop:=∀ i j,i<=j->j<k->O.kle (Kp X p j) (Kp X p i)
theorem E4 {p:Array Nat}{i j:Nat}(hj:j<=p.size)(k:Nat):Kp X (kas_rev p i j) k=if i<=k/\k<j then Kp X p (i+j-1-k) else Kp X p k:=by
 unfold Kp kas_rev;rw[bK,getElem?_mirror_all hj];split
 ·rw[bK]
 ·rw[bK]
theorem vq {p:Array Nat}{i j:Nat}(hj:j<=p.size)(h:∀ k,i<=k->k<j->Kp X p k=Kp X p (j-1))(k:Nat):Kp X (kas_rev p i j) k=Kp X p k:=by
 rw[E4 hj];split
 ·rw[h _ (by lia (config:={})) (by lia (config:={})),h k (by lia (config:={})) (by lia (config:={}))]
 ·rfl
theorem JR {p:Array Nat}{src d:Nat}(hs:src<p.size)(hd:d<=src)(k:Nat):Kp X (bubble p src d) k=if k=src-d then Kp X p src else if src-d<k/\k<=src then Kp X p (k-1) else Kp X p k:=by
 have g:∀ (q:Array Nat) (i:Nat),Kp X q i=X ((q[i]?).getD 0):=λ q i=>by unfold Kp;rw[bK]
 rw[g,g,g,g,getElem?_bubble hs d hd];split
 ·rfl
 ·split<;>rfl
abbrev cO (X:Nat->O.α):Nat->Nat->Bool:=λ i j=>O.blt (X i) (X j)
theorem JS {p:Array Nat}(P:Pm n p):∀ (f a:Nat),1<=a->Sor X p a->Tr n (cO X) (λ m=>a<=m/\m<=a+f/\Sor X p m/\(m=a+f\/O.klt (Kp X p m) (Kp X p (m-1)))) (kas_asc p f a)
 | 0,a,h1,h2=>⟨ak _,ak _,h2,.inl rfl⟩
 | f+1,a,h1,h2=>by
  refine⟨P.lt _,P.lt _,?_⟩;show Tr n (cO X) _ (if O.blt (Kp X p a) (Kp X p (a-1))=true then .ret a else kas_asc p f (a+1));by_cases h:O.blt (Kp X p a) (Kp X p (a-1))=true
  ·rw[af h];exact⟨ak _,by lia,h2,.inr h⟩
  ·rw[ah h]
   have hk:O.kle (Kp X p (a-1)) (Kp X p a):=fQ h;have h3:Sor X p (a+1):=λ i j hij hj=>by
    by_cases hja:j<a
    ·exact h2 i j hij hja
    ·have:j=a:=by lia
     subst this;by_cases hi:i=j
     ·subst hi;exact eD _
     ·exact fv (h2 i (j-1) (by lia) (by lia)) hk
   have:=JS P f (a+1) (by lia) h3;refine(show ∀ (t:KasT Nat),Tr n (cO X) _ t->Tr n (cO X) _ t from ?_) _ this;intro t;induction t with
   | ret m=>intro ⟨x1,x2,x3,x4⟩;exact⟨by lia,by lia,x3,by rw[show a+(f+1)=a+1+f by lia];exact x4⟩
   | ask i j k ih=>intro ⟨y1,y2,y3⟩;exact⟨y1,y2,ih _ y3⟩
theorem qB {p:Array Nat}{m:Nat}(h:Non X p m)(h1:1<=m)(hk:O.kle (Kp X p m) (Kp X p (m-1))):Non X p (m+1):=λ i j hij hj=>by
 by_cases hjm:j<m
 ·exact h i j hij hjm
 ·have:j=m:=by lia
  subst this;by_cases hi:i=j
  ·subst hi;exact eD _
  ·exact fv hk (h i (j-1) (by lia) (by lia))
def RZ (n:Nat)(X:Nat->O.α)(lo hi:Nat)(r:Array Nat×Nat×Nat):Prop:=Pm n r.1/\Non X r.1 r.2.1/\r.2.2+1<=r.2.1/\lo<=r.2.1/\r.2.1<=hi/\∀ i,r.2.1-(r.2.2+1)<=i->i<r.2.1->Kp X r.1 i=Kp X r.1 (r.2.1-1)
theorem Bf:∀ (f:Nat) (p:Array Nat) (m q lo:Nat),Pm n p->m+f<=n->1<=m->lo<=m->Non X p m->q+1<=m->(∀ i,m-(q+1)<=i->i<m->Kp X p i=Kp X p (m-1))->Tr n (cO X) (RZ n X lo (m+f)) (kas_desc f p m q)
 | 0,p,m,q,lo,P,hn,h1,hlo,h2,h3,h4=>⟨P,h2,h3,hlo,ak _,h4⟩
 | f+1,p,m,q,lo,P,hn,h1,hlo,h2,h3,h4=>by
  refine⟨P.lt _,P.lt _,?_⟩;have one:∀ (p':Array Nat) i,m+1-(0+1)<=i->i<m+1->Kp X p' i=Kp X p' (m+1-1):=λ p' i a b=>by rw[show i=m by lia];rfl
  show Tr n (cO X) _ (if O.blt (Kp X p m) (Kp X p (m-1))=true then _ else _);rw[show m+(f+1)=m+1+f by lia];by_cases h:O.blt (Kp X p m) (Kp X p (m-1))=true
  ·rw[af h]
   by_cases hq:q>0
   ·rw[af hq]
    have hm:m<=p.size:=by rw[P.size];lia
    have ke:=vq (X:=X) (p:=p) (i:=m-(q+1)) (j:=m) hm λ k a b=>h4 k a b;refine Bf f _ (m+1) 0 lo (P.perm (mirror_perm _ _ _ _)) (by lia) (by lia) (by lia) (qB (λ i j a b=>?_) h1 ?_) (by lia) (one _)
    ·rw[ke,ke];exact h2 i j a b
    ·rw[ke,ke];exact eK h
   ·rw[ah hq];exact Bf f p (m+1) 0 lo P (by lia) (by lia) (by lia) (qB h2 h1 (eK h)) (by lia) (one _)
  ·rw[ah h]
   refine⟨P.lt _,P.lt _,?_⟩;show Tr n (cO X) _ (if O.blt (Kp X p (m-1)) (Kp X p m)=true then _ else _);by_cases h':O.blt (Kp X p (m-1)) (Kp X p m)=true
   ·rw[af h'];exact⟨P,h2,h3,hlo,(show m<=m+1+f by lia),h4⟩
   ·rw[ah h']
    have e:Kp X p m=Kp X p (m-1):=O.total _ _ (by simpa using h) (by simpa using h');refine Bf f p (m+1) (q+1) lo P (by lia) (by lia) (by lia) (qB h2 h1 (by rw[e];exact eD _)) (by lia) λ i a b=>?_;by_cases hi:i=m
    ·rw[hi];rfl
    ·rw[show m+1-1=m by lia,e];exact h4 i (by lia) (by lia)
def PY (n:Nat)(X:Nat->O.α)(r:Nat×Array Nat):Prop:=Pm n r.2/\Sor X r.2 r.1/\1<=r.1/\r.1<=n
theorem Gx {p:Array Nat}{m:Nat}(P:Pm n p)(h:Non X p m)(h1:1<=m)(hm:m<=n):Tr n (cO X) (PY n X) (kas_tail3 m n p):=by
 have P1:Pm n (kas_rev p 0 m):=P.perm (mirror_perm _ _ _ _);refine Tr.bnd (λ a ⟨a1,a2,a3,_⟩=>⟨P1,a3,by lia,by lia⟩) _ (JS P1 (n-m) m h1 λ i j hij hj=>?_);have hz:m<=p.size:=by rw[P.size];exact hm
 rw[E4 hz,E4 hz,af (by lia),af (by lia)];exact h _ _ (by lia) (by lia)
theorem yf {p:Array Nat}{m:Nat}(P:Pm n p)(h:Non X p (m+1))(hm:m+1<=n):Tr n (cO X) (PY n X) (kas_descPart m n p):=by
 refine Tr.bnd (λ r hr=>?_) _ (Bf (n-(m+1)) p (m+1) 0 (m+1) P (by lia) (by lia) (ak _) h (by lia) λ i a b=>by rw[show i=m by lia];rfl);obtain⟨P',N',q1,l1,u1,e1⟩:=hr;by_cases hq:r.2.2>0
 ·rw[af hq]
  have hz:r.2.1<=r.1.size:=by rw[P'.size];lia
  have ke:=vq (X:=X) (p:=r.1) (i:=r.2.1-(r.2.2+1)) (j:=r.2.1) hz λ k a b=>e1 k a b;refine Gx (P'.perm (mirror_perm _ _ _ _)) (λ i j a b=>?_) (by lia) (by lia);rw[ke,ke];exact N' i j a b
 ·rw[ah hq];exact Gx P' N' (by lia) (by lia)
theorem MC {p:Array Nat}(P:Pm n p):Tr n (cO X) (PY n X) (kas_count n p):=by
 have hn:=P.1;refine Tr.bnd (λ m ⟨m1,m2,m3,m4⟩=>?_) _ (JS P (n-1) 1 (ak _) λ i j hij hj=>by rw[show i=0 by lia,show j=0 by lia];exact eD _);by_cases he:m=n
 ·rw[af (by simpa using he)];exact⟨P,m3,m1,by lia⟩
 ·rw[ah (by simpa using he)]
  have hlt:O.klt (Kp X p m) (Kp X p (m-1)):=m4.resolve_left (by lia);by_cases h1:m>1
  ·rw[af h1]
   refine⟨P.lt _,P.lt _,?_⟩;show Tr n (cO X) _ (if O.blt (Kp X p 0) (Kp X p (m-1))=true then _ else _);by_cases h:O.blt (Kp X p 0) (Kp X p (m-1))=true
   ·rw[af h];exact⟨P,m3,m1,by lia⟩
   ·rw[ah h]
    have hle:O.kle (Kp X p (m-1)) (Kp X p 0):=fQ h;have hz:m<=p.size:=by rw[P.size];lia
    have all:∀ k,0<=k->k<m->Kp X p k=Kp X p (m-1):=λ k _ hk=>KeyOrd.kle_antisymm (m3 k (m-1) (by lia) (by lia)) (fv hle (m3 0 k (by lia) hk));have ke:=vq (X:=X) (p:=p) (i:=0) (j:=m) hz all;refine yf (P.perm (mirror_perm _ _ _ _)) (qB (λ i j a b=>?_) m1 ?_) (by lia)
    ·rw[ke,ke,all i (by lia) (by lia),all j (by lia) b];exact eD _
    ·rw[ke,ke];exact eK hlt
  ·rw[ah h1]
   have:m=1:=by lia
   subst this;exact yf P (qB (λ i j a b=>by rw[show i=0 by lia,show j=0 by lia];exact eD _) (ak _) (eK hlt)) (by lia)
theorem Bg {p:Array Nat}{k:Nat}(P:Pm n p)(S:Sor X p k):∀ (f l r:Nat),l<=r->r<=k->r<=l+f->(∀ i,i<l->O.kle (Kp X p i) (Kp X p k))->(∀ i,r<=i->i<k->O.klt (Kp X p k) (Kp X p i)) ->
  Tr n (cO X) (λ m=>m<=k/\(∀ i,i<m->O.kle (Kp X p i) (Kp X p k))/\∀ i,m<=i->i<k->O.klt (Kp X p k) (Kp X p i)) (kas_place p k f l r)
 | 0,l,r,h1,h2,h3,h4,h5=>by
  have:l=r:=by lia
  subst this;exact⟨h2,h4,h5⟩
 | f+1,l,r,h1,h2,h3,h4,h5=>by
  show Tr n (cO X) _ (if l≥r then .ret l else _);by_cases h:l≥r
  ·rw[af h]
   have:l=r:=by lia
   subst this;exact⟨h2,h4,h5⟩
  ·rw[ah h]
   refine⟨P.lt _,P.lt _,?_⟩;show Tr n (cO X) _ (if O.blt (Kp X p k) (Kp X p ((l+r) / 2))=true then _ else _);by_cases hc:O.blt (Kp X p k) (Kp X p ((l+r) / 2))=true
   ·rw[af hc];refine Bg P S f l ((l+r) / 2) (by lia) (by lia) (by lia) h4 λ i a b=>?_;exact KeyOrd.klt_of_klt_of_kle hc (S _ i a b)
   ·rw[ah hc];refine Bg P S f ((l+r) / 2+1) r (by lia) h2 (by lia) (λ i a=>?_) h5;exact fv (S i _ (by lia) (by lia)) (fQ hc)
theorem Oy:∀ (f:Nat) (p:Array Nat) (k:Nat),Pm n p->Sor X p k->k+f=n->Tr n (cO X) (λ p'=>Pm n p'/\Sor X p' n) (kas_bin f p k)
 | 0,p,k,P,S,h=>by
  have:k=n:=by lia
  subst this;exact⟨P,S⟩
 | f+1,p,k,P,S,h=>by
  refine Tr.bnd (λ l ⟨l1,l2,l3⟩=>?_) _ (Bg P S k 0 k (bg _) (ak _) (by lia) (λ i hi=>absurd hi (eA _)) λ i a b=>by lia);refine Oy f _ (k+1) (P.perm (bubble_perm _ _ _)) (λ i j hij hj=>?_) (by lia);have hk:k<p.size:=by rw[P.size];lia
  rw[JR hk (by lia),JR hk (by lia),show k-(k-l)=l by lia];by_cases e1:i=l
  ·rw[af e1]
   by_cases e2:j=l
   ·rw[af e2];exact eD _
   ·rw[ah e2,af (by lia)];exact eK (l3 (j-1) (by lia) (by lia))
  ·rw[ah e1]
   by_cases e2:j=l
   ·rw[af e2,ah (by lia)];exact l2 i (by lia)
   ·rw[ah e2]
    by_cases e3:l<i/\i<=k
    ·rw[af e3,af (by lia)];exact S _ _ (by lia) (by lia)
    ·rw[ah e3]
     by_cases e4:l<j/\j<=k
     ·rw[af e4]
      by_cases e5:j-1<l
      ·lia
      ·exact fv (l2 i (by lia)) (eK (l3 (j-1) (by lia) (by lia)))
     ·rw[ah e4];exact S i j hij (by lia)
theorem PZ (hn:0<n):Tr n (cO X) (λ p=>Pm n p/\Sor X p n) (kas_sort n):=by
 have P0:Pm n (List.toArray (List.range n)):=⟨hn,ic _⟩;refine Tr.bnd (λ r ⟨P,S,r1,r2⟩=>?_) _ (MC P0);by_cases h:r.1<n
 ·rw[af h,show max r.1 1=r.1 by lia];exact Oy _ _ _ P S (by lia)
 ·rw[ah h]
  have:r.1=n:=by lia
  exact⟨P,this▸S⟩
end
open PySem.Spec
theorem Gy {α:Type}(next:Nat->Nat):∀ (fuel k:Nat) (left:List α) (out:Array α),fuel=left.length->List.Perm (pickOrder.go next fuel k left out).toList (out.toList++left)
 | 0,k,left,out,h=>by have:left=[]:=dP.mp h.symm;subst this;unfold pickOrder.go;simp
 | fuel+1,k,left,out,h=>by
  unfold pickOrder.go;have hl:next k % left.length<left.length:=fY _ (by lia)
  have e:left[next k % left.length]?=some left[next k % left.length]:=by simp[hl]
  rw[e];dsimp only;refine(Gy next fuel (k+1) _ _ (by rw[List.length_eraseIdx_of_lt hl];lia)).trans ?_;rw[Array.toList_push,eJ];refine List.Perm.append_left _ ?_;have e2:left=left.take (next k % left.length)++left[next k % left.length]::left.drop (next k % left.length+1):=by rw[<-fw hl,List.take_append_drop]
  have e3:left.eraseIdx (next k % left.length)=left.take (next k % left.length)++left.drop (next k % left.length+1):=List.eraseIdx_eq_take_drop_succ _ _;rw[e3];refine List.Perm.trans ?_ (List.Perm.of_eq e2.symm);rw[List.singleton_append];exact List.perm_middle.symm
theorem Ii {α:Type}(next:Nat->Nat)(xs:Array α):List.Perm (pickOrder next xs).toList xs.toList:=by
 unfold pickOrder;have:=Gy next xs.size 0 xs.toList #[] (by simp)
 simpa using this
theorem yg {xs:Array Nat}(R:Ri xs){j r:Nat}(h:Bel xs j r):SetTable.below xs j=r:=by
 obtain⟨a1,a2,a3⟩:=xY R j;obtain⟨b1,b2,b3⟩:=h;rcases gU (SetTable.below xs j) r with q | q | q
 ·have hl:SetTable.below xs j<xs.size:=by lia
  have e:xs[SetTable.below xs j]?=some xs[SetTable.below xs j]:=by simp[hl]
  have h1:=b2 _ _ q e;have h2:=a3 _ _ (ak _) e;lia
 ·exact q
 ·have hl:r<xs.size:=by lia
  have e:xs[r]?=some xs[r]:=by simp[hl]
  have h1:=a2 _ _ q e;have h2:=b3 _ _ (ak _) e;lia
theorem E5 {xs:Array Nat}(R:Ri xs){i j:Nat}(e:xs[i]?=some j):SetTable.below xs (j+1)=i+1:=by
 have hi:=(cY.mp e).1;refine yg R ⟨hi,λ k x hk ek=>?_,λ k x hk ek=>R i k j x hk e ek⟩;by_cases q:k=i
 ·subst q;rw[e]at ek;cases ek;lia
 ·have:=R k i x j (by lia) ek e;lia
theorem E6 {xs:Array Nat}(R:Ri xs):SetTable.below xs 0=0:=yg R ⟨bg _,λ k x hk=>absurd hk (eA _),λ k x _ _=>bg _⟩
theorem ly:Slot "set_iterator" "__next__" "set_iterator.__next__" :=
 .of (owner:="set_iterator") (n:="__next__") (by rw[typeLookup_type,builtinLookup_eq_fast];kernel_rfl) (by decide +kernel) (by decide +kernel) (by decide +kernel) (by first | exact .inl (by decide +kernel) | exact .inr (by decide +kernel)) (by rw[isSubtype_type];kernel_rfl)
theorem tY:Slot "set_iterator" "__iter__" "set_iterator.__iter__" :=
 .of (owner:="set_iterator") (n:="__iter__") (by rw[typeLookup_type,builtinLookup_eq_fast];kernel_rfl) (by decide +kernel) (by decide +kernel) (by decide +kernel) (by first | exact .inl (by decide +kernel) | exact .inr (by decide +kernel)) (by rw[isSubtype_type];kernel_rfl)
theorem sj:entryFor table "set_iterator.__next__"=some Builtin.«set_iterator.__next__»:=entryFor_of_tree (by kernel_rfl)
theorem zU:entryFor table "set_iterator.__iter__"=some Builtin.«dict_keyiterator.__iter__» :=
 entryFor_alias (id':="dict_keyiterator.__iter__") (by kernel_rfl) rfl (by decide +kernel)
  (by kernel_rfl)
theorem zV:entryFor table "set.__iter__"=some Builtin.«frozenset.__iter__» :=
 entryFor_alias (id':="frozenset.__iter__") (by kernel_rfl) rfl (by decide +kernel) (by kernel_rfl)
theorem CY:Manifest.owners.lookup (String.ofList ['r','o','t','a','r','e','t','i','_','t','e','s'].reverse)=some Manifest.sig_set_iterator:=by kernel_rfl
theorem tZ (a:iG):argsOk "set_iterator.__next__" ⟨[a],[]⟩:=by
 unfold argsOk;rw[signature?_of (id:="set_iterator.__next__") (n:=['_','_','t','x','e','n','_','_']) (o:=['r','o','t','a','r','e','t','i','_','t','e','s']) (by kernel_rfl) CY]
 kernel_rfl
theorem Bh (a:iG):argsOk "set_iterator.__iter__" ⟨[a],[]⟩:=by
 unfold argsOk;rw[signature?_of (id:="set_iterator.__iter__") (n:=['_','_','r','e','t','i','_','_']) (o:=['r','o','t','a','r','e','t','i','_','t','e','s']) (by kernel_rfl) CY]
 kernel_rfl
section
variable {prog:Program}{w:World}{A:Around}{E:ir}{s:iH}{S I:Addr}{oS:Obj}{es:Array (Int×iG)}{ep:Nat}{t:SetTable}
def seen (w:World)(S:Addr)(ep:Nat)(es:Array (Int×iG)):Array (Int×iG):=if w.params.followText "set-order"=true then pickOrder (w.params.setOrder S ep) es else es
theorem vv (w:World)(S:Addr)(ep:Nat)(es:Array (Int×iG)):List.Perm (seen w S ep es).toList es.toList:=by
 unfold seen;split
 ·exact Ii _ _
 ·exact ic _
def SIt (w:World)(S I:Addr)(n ep:Nat)(t:SetTable)(i:Nat)(h:Heap):Prop:=∃ (o:Obj) (slot:Nat),h.get? I=some o/\o.cls=.type "set_iterator"/\o.data=.fields #[rawInt slot,rawInt i,.ref S,rawInt n,rawInt ep]/\(w.params.followText "set-order"=false->SetTable.below t.place slot=i)
theorem Bi {Q:Bool->iH->Prop}(h:Q (w.params.followText "set-order") s):wpAny (model prog w) A setsByText Q E s:=by unfold setsByText;exact aa (wpAny_askSetting (ao h))
theorem CZ {Q:iA (iG×Nat)->iH->Prop}{i slot:Nat}(hS:s.heap.get? S=some oS)(hd:oS.data=.set es ep t)(T:TOk t (es.toList.map (·.1)))(hp:t.plain=true)(hl:t.led=!(w.params.followText "set-order"))
  (hsl:w.params.followText "set-order"=false->SetTable.below t.place slot=i) (h0:(seen w S ep es)[i]?=none->Q none s)
  (h1:∀ hv v nx,(seen w S ep es)[i]?=some (hv,v)->(w.params.followText "set-order"=false->SetTable.below t.place nx=i+1)->Q (some (v,nx)) s):wpAny (model prog w) A (setNext S slot i ep) Q E s:=by
 have hfit:=fits_of T (n:=es.size) (by simp);unfold setNext;refine aa (cA hS hd hfit ?_);dsimp only;refine aa (Bi ?_);by_cases hb:w.params.followText "set-order"=true
 ·have sd:seen w S ep es=pickOrder (w.params.setOrder S ep) es:=by unfold seen;rw[af hb]
  rw[af hb];simp only[bne_self_eq_false,aW,bY];unfold setWalk;refine aa (aa (cA hS hd hfit ?_));dsimp only;refine aa (Bi ?_);rw[af hb];refine aa (wpAny_askSetting (ao ?_));refine ao ?_;show Q (((pickOrder (w.params.setOrder S ep) es)[i]?).map λ e=>(e.2,slot)) s;rw[<-sd];cases e:(seen w S ep es)[i]? with
  | none=>exact h0 e
  | some v=>exact h1 v.1 v.2 slot e λ z=>by rw[hb]at z;cases z
 ·have hb':w.params.followText "set-order"=false:=by simpa using hb
  have sd:seen w S ep es=es:=by unfold seen;rw[ah hb]
  rw[ah hb];have hdr:∀ {α:Type} {a b:Sem α} {R:α->iH->Prop},wpAny (model prog w) A b R E s->wpAny (model prog w) A (if (!t.plain&&decide (es.size>1))=true then a else b) R E s:=λ hb=>by rw[hp];simpa using hb
  refine hdr ?_;have hml:∀ {α:Type} {b:Unit->Sem α} {R:α->iH->Prop},wpAny (model prog w) A (b ()) R E s->wpAny (model prog w) A ((if (!t.led&&!es.isEmpty)=true then unsupported "set:maker-not-led" else pure ())>>=b) R E s:=λ hb=>by rw[hl,hb'];simp only[gM,dJ,h_,aW,bY];exact aa (ao hb)
  refine hml ?_;rw[hsl hb'];refine ao ?_;rw[sd]at h0 h1;have hpl:t.place.size=es.size:=by have:=T.sz;simpa using this
  by_cases hi:i<es.size
  ·have e1:es[i]?=some es[i]:=by simp[hi]
   have e2:t.place[i]?=some (t.place[i]'(by lia)):=by simp[show i<t.place.size by lia]
   rw[e1,e2];exact h1 es[i].1 es[i].2 _ e1 λ _=>E5 T.ri e2
  ·have e1:es[i]?=none:=eX (by lia);rw[e1];exact h0 e1
theorem Bj {i n:Nat}(x:SIt w S I n ep t i s.heap):s.TypeIs (.ref I) "set_iterator":=let ⟨o,_,ho,hc,_⟩:=x;⟨o,ho,hc⟩
theorem qC {Q:Array (Int×iG)->iH->Prop}(hS:s.heap.get? S=some oS)(hd:oS.data=.set es ep t)(T:TOk t (es.toList.map (·.1)))(h:Q es s):wpAny (model prog w) A (setEntries S) Q E s:=by unfold setEntries;exact aa (cA hS hd (fits_of T (by simp)) (ao h))
theorem MD {i:Nat}{hv:Int}{v:iG}{Q:iA iG->iH->Prop}(x:SIt w S I es.size ep t i s.heap)(hS:s.heap.get? S=some oS)(hd:oS.data=.set es ep t)(T:TOk t (es.toList.map (·.1)))(hp:t.plain=true)(hl:t.led=!(w.params.followText "set-order"))
  (hx:(seen w S ep es)[i]?=some (hv,v)) (hQ:∀ h',SIt w S I es.size ep t (i+1) h'->Heap.SameBut I s.heap h'->Q (some v) {s with heap:=h'}):wpAny (model prog w) A (pyNext (.ref I)) Q E s:=by
 have hT:=Bj x;obtain⟨o,slot,ho,hc,hdd,hsl⟩:=x;unfold pyNext;refine aa (gZ (cB (name:=Str.ofString "__next__") hT ly (cH ly hT sj ?_ (tZ _))));unfold Builtin.«set_iterator.__next__»;refine aa (ao ?_);refine aa (wpAny_fieldsOf ho hdd ?_);show wpAny _ _ (setEntries S>>=_) _ _ s;refine aa (qC hS hd T ?_);simp only[bne_self_eq_false,aW,bY];show wpAny _ _ (setNext S slot i ep>>=_) _ _ s;refine aa (CZ hS hd T hp hl hsl (λ z=>by rw[hx]at z;cases z) λ hv' v' nx e1 e2=>?_);rw[hx]at e1;cases e1;dsimp only;refine aa (fL ho hdd (by simp) ?_);have ho1:=ed (Obj.mapFields (·.setIfInBounds 0 (rawInt nx))) ho (fR (d4 hdd _));have hd1:=d4 hdd (·.setIfInBounds 0 (rawInt nx));refine aa (fL (s:={s with heap:=s.heap.update I (Obj.mapFields (·.setIfInBounds 0 (rawInt nx)))}) ho1 hd1 (by simp) ?_);have ho2:=ed (Obj.mapFields (·.setIfInBounds 1 (rawInt ((i:Int)+1)))) ho1 (fR (d4 hd1 _));refine ao ⟨_,rfl,ao (hQ _ ⟨_,nx,ho2,?_,?_,e2⟩ ((df ..).trans (df ..)))⟩
 ·rw[gW,gW];exact hc
 ·rw[d4 hd1];simp[rawInt]
theorem P2 {i:Nat}{Q:iA iG->iH->Prop}(hh:A.handled=none)(x:SIt w S I es.size ep t i s.heap)(hS:s.heap.get? S=some oS)(hd:oS.data=.set es ep t)(T:TOk t (es.toList.map (·.1)))(hp:t.plain=true)(hl:t.led=!(w.params.followText "set-order"))
  (hx:(seen w S ep es)[i]?=none) (hQ:∀ h',Heap.ExtBut I s.heap h'->Q none {s with heap:=h'}):wpAny (model prog w) A (pyNext (.ref I)) Q E s:=by
 have hT:=Bj x;obtain⟨o,slot,ho,hc,hdd,hsl⟩:=x;unfold pyNext;refine aa (gZ (cB (name:=Str.ofString "__next__") hT ly (cH ly hT sj ?_ (tZ _))));unfold Builtin.«set_iterator.__next__»;refine aa (ao ?_);refine aa (wpAny_fieldsOf ho hdd ?_);show wpAny _ _ (setEntries S>>=_) _ _ s;refine aa (qC hS hd T ?_);simp only[bne_self_eq_false,aW,bY];show wpAny _ _ (setNext S slot i ep>>=_) _ _ s;refine aa (CZ hS hd T hp hl hsl (λ _=>?_) λ hv' v' nx e1 e2=>by rw[hx]at e1;cases e1);dsimp only;refine aa (fL ho hdd (by simp) ?_);show wpAny _ _ (newExc (.type "StopIteration") []>>=_) _ _ _;refine aa ?_;simp only[newExc,newTuple];refine aa (cu ?_ (by size_fits));refine aa (m:=firstArgMember _ _) (wpAny_of_eq (a:=Value.none) (by first | rfl | (simp only[firstArgMember];rfl)) ?_);refine cu ?_ (by size_fits);simp only[raiseNew];refine aa (wpAny_handled ?_);rw[show A.in1.handled=none from hh];refine aa (ao (wpAny_throw ?_));refine aa (wpAny_isInstance (T:="StopIteration") (b:=true) ⟨_,aS _ rfl,rfl⟩ isSubtype_stop ?_);exact ao (hQ _ (((df ..).extBut.push _).push _))
theorem JT (hh:A.handled=none)(hne:S≠I)(hd:oS.data=.set es ep t)(T:TOk t (es.toList.map (·.1)))(hp:t.plain=true)(hl:t.led=!(w.params.followText "set-order")) :
  Walks prog w A I [I,S] [I] es.size (λ i v=>∃ hv,(seen w S ep es)[i]?=some (hv,v)) (λ i h=>SIt w S I es.size ep t i h/\h.get? S=some oS) where
 sub:=λ b hb=>by simp at hb;simp[hb]
 frame:=λ i h h' st hk=>⟨let ⟨o,sl,ho,r⟩:=st.1;⟨o,sl,hk I (by simp) o ho,r⟩,hk S (by simp) oS st.2⟩
 item:=λ i s Q E hi st hQ=>by
  have hz:(seen w S ep es).size=es.size:=by have:=(vv w S ep es).length_eq;simpa using this
  have e:(seen w S ep es)[i]?=some (seen w S ep es)[i]:=by simp[hz,hi]
  exact MD st.1 st.2 hd T hp hl (hv:=(seen w S ep es)[i].1) (v:=(seen w S ep es)[i].2) e λ h' st' sb =>hQ _ h' s.toks ⟨_,e⟩ ⟨st',(sb.2 S hne).trans st.2⟩ λ b o hb q=>(sb.2 b (by simpa using hb)).trans q
 done:=λ s Q E st hQ=>by
  have hz:(seen w S ep es).size=es.size:=by have:=(vv w S ep es).length_eq;simpa using this
  exact P2 hh st.1 st.2 hd T hp hl (eX (by lia)) λ h' eb=>hQ h' s.toks λ b o hb q=>eb b o (by simpa using hb) q
 self:=λ i s Q E st hQ=>by have hT:=Bj st.1;refine wpAny_pyIter_slot hT tY (cH tY hT zU ?_ (Bh _));unfold Builtin.«dict_keyiterator.__iter__»;refine aa (ao ?_);exact ao ⟨_,rfl,"set_iterator",_,hT,ly.lookup,hQ⟩
end
end Tb
namespace L2
open PySem PySem.Spec PyProof.Rows
def E7 (env:Env):List (Str×NameKind)->List (Str×Addr)->List (Str×Addr)
 | [],cs=>cs
 | (n,k)::r,cs=>E7 env r (if k==.free then (n,(env.cells.lookup n).getD 0)::cs else cs)
def zW (scope:Scope)(env:Env):List (Str×Addr):=E7 env scope.names []
theorem yh {scope:Scope}{env:Env}(h:∀ x∈scope.names,x.2=.free->∃ c,env.cells.lookup x.1=some c):closureFor scope env=pure (zW scope env):=by
 unfold closureFor zW;generalize scope.names=l at h ⊢;generalize hcs:([]:List (Str×Addr))=cs;clear hcs;induction l generalizing cs with
 | nil=>simp only[E7,ie,pure_bind]
 | cons a r ih =>
  obtain⟨n,k⟩:=a;have ih':=λ cs=>ih (λ x hx=>h x (av _ hx)) cs;simp only[hU,E7];by_cases e:k=.free
  ·subst e;obtain⟨c,hc⟩:=h (n,.free) ar rfl;have hc:env.cells.lookup n=some c:=hc;simp only[cellOf,hc,beq_self_eq_true,cM,ft,pure_bind];exact ih' _
  ·have e':(k==NameKind.free)=false:=beq_eq_false_iff_ne.mpr e;simp only[e',aW,bY,pure_bind];exact ih' _
theorem C0 {env:Env}:∀ (l:List (Str×NameKind)) (cs:List (Str×Addr)),(∀ x∈l,x.2=.free->∃ c,env.cells.lookup x.1=some c)->(∀ x c,cs.lookup x=some c->env.cells.lookup x=some c) ->
  ∀ x c,(E7 env l cs).lookup x=some c->env.cells.lookup x=some c
 | [],_,_,h2,x,c,e=>h2 x c e
 | (n,k)::r,cs,h1,h2,x,c,e=>by
  refine C0 r _ (λ y hy=>h1 y (av _ hy)) (λ y d q=>?_) x c e;by_cases hk:k=.free
  ·subst hk
   obtain⟨d',hd⟩:=h1 (n,.free) ar rfl;have hd:env.cells.lookup n=some d':=hd;rw[af (by decide),hd,ft,br]at q;cases hx:y==n with
   | true =>
    rw[hx]at q;have:y=n:=by simpa using hx
    subst this;cases q;exact hd
   | false=>rw[hx]at q;exact h2 y d q
  ·rw[ah (by simpa using hk)]at q;exact h2 y d q
theorem Az {env:Env}:∀ (l:List (Str×NameKind)) (cs:List (Str×Addr)) (x:Str),(∃ c,cs.lookup x=some c)->∃ c,(E7 env l cs).lookup x=some c
 | [],_,_,h=>h
 | (n,k)::r,cs,x,h=>by
  refine Az r _ x ?_;split
  ·rw[br]
   cases hx:x==n with
   | true=>exact⟨_,rfl⟩
   | false=>exact h
  ·exact h
theorem C1 {env:Env}:∀ (l:List (Str×NameKind)) (cs:List (Str×Addr)) (x:Str),(x,NameKind.free)∈l->∃ c,(E7 env l cs).lookup x=some c
 | (n,k)::r,cs,x,h=>by
  rcases aN.mp h with e | h
  ·have e1:x=n:=cK Prod.fst e;have e2:NameKind.free=k:=cK Prod.snd e;refine Az r _ x ?_;rw[<-e2,<-e1,af (by decide),br];simp
  ·exact C1 r _ x h
theorem qD {env:Env}:∀ {names:List (Str×NameKind)} {x:Str} {k:NameKind},
  (names.map λ(n,k)=>if (k==NameKind.free&&env.scope.kind==.function&&env.kindOf n==some .cell) then (n,NameKind.cell) else (n,k)).lookup x=some k ->
  ∃ k0,(x,k0)∈names/\names.lookup x=some k0/\(k=k0\/(k0=.free/\k=.cell))
 | [],_,_,h=>by simp at h
 | (n,k')::r,x,k,h=>by
  have h:List.lookup x ((if (k'==NameKind.free&&env.scope.kind==.function&&env.kindOf n==some .cell)=true then (n,NameKind.cell) else (n,k'))::_)=_:=h;cases hx:x==n with
  | true =>
   have e:x=n:=by simpa using hx
   subst e;by_cases hc:(k'==NameKind.free&&env.scope.kind==.function&&env.kindOf x==some .cell)=true
   ·rw[af hc,br,hx]at h;simp at hc;cases h;exact⟨k',ar,by rw[br,hx],.inr ⟨hc.1.1,rfl⟩⟩
   ·rw[ah hc,br,hx]at h;cases h;exact⟨k',ar,by rw[br,hx],.inl rfl⟩
  | false =>
   have h':List.lookup x (r.map λ(n,k)=>if (k==NameKind.free&&env.scope.kind==.function&&env.kindOf n==some .cell) then (n,NameKind.cell) else (n,k))=some k:=by
    by_cases hc:(k'==NameKind.free&&env.scope.kind==.function&&env.kindOf n==some .cell)=true
    ·rw[af hc,br,hx]at h;exact h
    ·rw[ah hc,br,hx]at h;exact h
   obtain⟨k0,m0,l0,o0⟩:=qD h';exact⟨k0,av _ m0,by rw[br,hx];exact l0,o0⟩
theorem ox {env:Env}:∀ {names:List (Str×NameKind)} {x:Str},names.lookup x=some .free ->
  (names.map λ(n,k)=>if (k==NameKind.free&&env.scope.kind==.function&&env.kindOf n==some .cell) then (n,NameKind.cell) else (n,k)).lookup x=some .free \/
  (names.map λ(n,k)=>if (k==NameKind.free&&env.scope.kind==.function&&env.kindOf n==some .cell) then (n,NameKind.cell) else (n,k)).lookup x=some .cell
 | [],_,h=>by simp at h
 | (n,k')::r,x,h=>by
  show List.lookup x ((if (k'==NameKind.free&&env.scope.kind==.function&&env.kindOf n==some .cell)=true then (n,NameKind.cell) else (n,k'))::_)=_\/List.lookup x ((if (k'==NameKind.free&&env.scope.kind==.function&&env.kindOf n==some .cell)=true then (n,NameKind.cell) else (n,k'))::_)=_;cases hx:x==n with
  | true =>
   rw[br,hx]at h;cases h;by_cases hc:(NameKind.free==NameKind.free&&env.scope.kind==.function&&env.kindOf n==some .cell)=true
   ·rw[af hc,br,hx];exact .inr rfl
   ·rw[ah hc,br,hx];exact .inl rfl
  | false =>
   rw[br,hx]at h;by_cases hc:(k'==NameKind.free&&env.scope.kind==.function&&env.kindOf n==some .cell)=true
   ·rw[af hc,br,hx];exact ox h
   ·rw[ah hc,br,hx];exact ox h
structure mh (X:Cx)(scope:Scope)(own fr:List Str)(ix:List Nat):Prop where
 kind:scope.kind=.function
 loc:∀ x∈scope.names,x.2=.local->scope.names.lookup x.1=some .local
 JU:∀ x∈scope.names,x.2≠.cell
 free:∀ x∈scope.names,x.2=.free->X.env.kindOf x.1=some .cell\/X.env.kindOf x.1=some .free
 V_:∀ x∈own,scope.names.lookup x=some .local
 fr':∀ x∈fr,scope.names.lookup x=some .free
 ix':ix.map (λ i=>X.N[i]?)=fr.map some
 nd:(own++fr).Nodup
def Cx.comp (X:Cx)(N:List Str)(scope:Scope)(C:Addr)(s:iH)(H:Hp)(fp:List Addr):Cx :=
 {X with N:=N,s₀:=s,H₀:=H,env:=compEnvC scope (zW scope X.env) C X.env,outer:=X.stack,stack:=X.stack,ex:=fp,fn:=λ _=>false,pn:=[],xe:=λ _ _=>False}
def kQ (own:List Str)(ix:List Nat)(σ:St):St:=own.map (λ _=>none)++ix.map λ i=>(σ[i]?).getD none
def PF (X:Cx)(ifs:List Expr)(t:TT):Prop :=
 ∀ (pins:iJ) (s:iH) (σ:St) (H:Hp) (Q:Bool->Hp->Prop),Inv X pins σ H s->t σ H Q ->
  wpAny (model X.prog X.w) X.A (forIn ifs true λ c r=>if r=true then do let ok<-isTrue c X.env (eval c X.env);pure (ForInStep.yield ok) else pure (ForInStep.yield r)) (TP X pins σ Q) X.xe s
def E8:TT:=λ _ H Q=>Q true H
theorem Bk {X:Cx}:PF X [] E8:=λ _ _ _ H _ I h=>wpAny_tests_nil ⟨H,I,h⟩
theorem P4 {X:Cx}{c:Expr}{t:TT}(h:PT X c t):PF X [c] t:=λ pins s σ H Q I q=>wpAny_tests_one (h pins s σ H Q I q)
theorem Bl {prog:Program}{w:World}{A:Around}{R:Result->iH->Prop}{s:iH}{elt target iter:Expr}{ifs:List Expr}{scope:Scope}{pos:Pos}{it acc:iG}{env:Env}(I:Nat->iH->Prop)
  (turn:∀ n s,I n s->wpAny (model prog w) A (pyNext it) (λ r s₁=>match r with
   | none=>R (.ok .next) s₁
   | some v=>wpAny (model prog w) A (letOwnedTupleGo target it v) (λ _ s₁'=>wpAny (model prog w) A (assign target env v) (λ _ s₂ =>
     wpAny (model prog w) A (forIn ifs true λ c r=>if r=true then do let ok<-isTrue c env (eval c env);pure (ForInStep.yield ok) else pure (ForInStep.yield r)) (λ ok s₃ =>
      if ok=true then wpAny (model prog w) A (eval elt env) (λ x s₄ =>wpAny (model prog w) A (call (.builtin "list.append") [acc,x]) (λ _ s₅=>∃ m,m<n/\I m s₅) (λ _ _=>False) s₄) (λ _ _=>False) s₃
      else ∃ m,m<n/\I m s₃) (λ _ _=>False) s₂) (λ _ _=>False) s₁') (λ _ _=>False) s₁) (λ _ _=>False) s)
  (n:Nat) (h:I n s) :
  codeAny (model prog w) A (.compLoop (.ListComp elt [⟨target,iter,ifs,0⟩] scope pos) 0 it acc env) R s:=by
 refine codeAny_loop rfl I (λ n s hI=>?_) n h;show wpAny _ A ((compTurn (.ListComp elt [⟨target,iter,ifs,0⟩] scope pos) 0 it acc env).onRaise (λ x=>do noteFrame x env;theTreesLotGoes x)) _ _ s;refine wpAny_noted ?_;rw[compTurn_list];have nox:∀ {α:Type} {t:Sem α} {Q Q':α->iH->Prop} {E:ir} {s:iH},wpAny (model prog w) A t Q (λ _ _=>False) s->(∀ a s,Q a s->Q' a s)->wpAny (model prog w) A t Q' E s:=λ h hq=>fh h hq λ _ _ z=>z.elim;refine aa (gX (aa (nox (turn n s hI) λ r s₁ h₁=>?_)));cases r with
 | none=>exact ao h₁
 | some v =>
  refine aa (nox h₁ λ _ s₁' h₁'=>aa (nox h₁' λ _ s₂ h₂=>aa (nox h₂ λ ok s₃ h₃=>?_)));cases ok with
  | false=>exact ao ⟨rfl,h₃⟩
  | true=>exact aa (aa (nox h₃ λ x s₄ h₄=>aa (nox h₄ λ _ s₅ h₅=>ao (ao ⟨rfl,h₅⟩))))
section
variable {X:Cx}{pins:iJ}{σ:St}{H:Hp}{s:iH}{own fr:List Str}{ix:List Nat}{scope:Scope}
theorem mh.cells (S:mh X scope own fr ix)(ok:X.Ok):∀ x∈scope.names,x.2=.free->∃ c,X.env.cells.lookup x.1=some c:=λ x hx e=>ok.has x.1 (S.free x hx e)
theorem mh.sub (S:mh X scope own fr ix)(ok:X.Ok):∀ x c,(zW scope X.env).lookup x=some c->X.env.cells.lookup x=some c :=
 C0 scope.names [] (S.cells ok) (λ x c e=>by simp at e)
theorem mh.R8 (S:mh X scope own fr ix){x:Str}(h:(relabel scope X.env).names.lookup x=some .cell\/(relabel scope X.env).names.lookup x=some .free):∃ c,(zW scope X.env).lookup x=some c:=by
 have go:∀ k,(k=.cell\/k=.free)->(relabel scope X.env).names.lookup x=some k->∃ c,(zW scope X.env).lookup x=some c:=λ k hk e=>by
  obtain⟨k0,m0,l0,o0⟩:=qD e;have:k0=.free:=by
   rcases o0 with o0 | o0
   ·rcases hk with z | z
    ·exact absurd (o0▸z) (S.JU (x,k0) m0)
    ·exact o0▸z
   ·exact o0.1
  subst this;exact C1 scope.names [] x m0
 rcases h with h | h
 ·exact go _ (.inl rfl) h
 ·exact go _ (.inr rfl) h
theorem Inv.enter (I:Inv X pins σ H s)(S:mh X scope own fr ix){fp:List Addr}(hf:∀ b∈fp,vc X pins H b)(hlt:∀ b∈fp,b<s.heap.objs.size){C:Addr}{h':Heap}{tk:Nat}{m:iq}(hC:s.heap.objs.size<=C)(hns:h'.Ns C m)
  (k:∀ b o,s.heap.get? b=some o->h'.get? b=some o):Inv (X.comp (own++fr) scope C s H fp) [] (kQ own ix σ) H {s with heap:=h',toks:=tk}:=by
 have subS:∀ b,b∈frs X.stack->b∈X.env.locals::X.fs:=I.A3;have cl:=S.sub I.ok;have cellAt:∀ x c,(zW scope X.env).lookup x=some c->∃ v,h'.IsCell c v:=λ x c e=>by obtain⟨v,o,ho,hd⟩:=I.cell x c (cl x c e);exact⟨v,o,k c o ho,hd⟩
 refine⟨⟨I.ok.mod,S.kind,I.ok.glob,I.ok.blt,hC,λ x y c h1 h2=>I.ok.inj x y c (cl x c h1) (cl y c h2),λ x hx=>S.R8 hx,λ x c h=>absurd h (by simp[Cx.comp]),I.ok.hd,I.ok.frames,.inl rfl,λ b hb=>⟨?_,λ x c e=>(hf b hb).2.2.2.2.1 x c (cl x c e)⟩,I.bs,bf I.ok.bsz I.sz,λ b o e hb=>?_,λ b hb z=>?_,I.stack,I.F9⟩,
  rfl,I.bare,Un.kept k,⟨m,hns,λ i x v e1 e2 e3=>?_⟩,cellAt,I.hok.fresh hC,λ x c e=>I.qk x c (cl x c e),λ p hp=>absurd hp (by simp[Cx.comp]),I.hok.kept k,?_⟩
 ·exact bw (aJ (hlt b hb) hC)
 ·rcases (hf b hb).2.2.2.1 with z | z
  ·exact I.ok.HQ b o e z
  ·exact absurd (aJ (aE e) (bf I.ok.bsz z)) (bD _)
 ·rcases aN.mp (subS b z) with q | q
  ·exact(hf b hb).2.1 q
  ·exact(hf b hb).2.2.1 q
 ·have e1:(own++fr)[i]?=some x:=e1
  have hi:own.length<=i:=by
   refine fX λ hlt'=>?_;unfold kQ at e2;rw[bW (by simpa using hlt'),ax]at e2;cases q:own[i]? with
   | none=>rw[q]at e2;cases e2
   | some a=>rw[q]at e2;cases e2
  rw[bS hi]at e1;unfold kQ at e2;rw[bS (by simpa using hi),ax,ag]at e2;cases q:ix[i-own.length]? with
  | none=>rw[q]at e2;cases e2
  | some i' =>
   rw[q]at e2;have e2:(σ[i']?).getD none=some v:=aF e2;have e3':σ[i']?=some (some v):=by
    cases r:σ[i']? with
    | none=>rw[r]at e2;cases e2
    | some w=>rw[r]at e2;exact cK some e2
   have eN:X.N[i']?=some x:=by have:=cK (λ l=>l[i-own.length]?) S.ix';simp only[ax,q,e1,bP]at this;exact aF this
   have hfr:=S.fr' x (a8 e1);have hk:=S.free (x,.free) (dU hfr) rfl;obtain⟨m0,_,hl0⟩:=I.loc;obtain⟨u,ru,lk⟩:=hl0 i' x v eN e3' (.inr hk);refine⟨u,ru,.inr ⟨(ox (env:=X.env) hfr).symm,?_⟩⟩;rcases lk with⟨hk',_⟩ | ⟨_,c,hc,hcell⟩
   ·rcases hk with hk | hk<;>(rw[hk']at hk;cases hk)
   ·obtain⟨c',hc'⟩:=S.R8 (x:=x) (ox (env:=X.env) hfr).symm;have:=cl x c' hc';rw[hc]at this;cases this;obtain⟨o,ho,hd⟩:=hcell;exact⟨c,hc',o,k c o ho,hd⟩
 ·show(kQ own ix σ).length=(own++fr).length;have:=cK List.length S.ix';simp only[ag]at this;simp[kQ,this]
theorem Inv.Gz {D:Addr}{o:HO}(I:Inv X pins σ H s)(hn:H D=none)(hs:X.s₀.heap.objs.size<=D)(hL:D≠X.env.locals)(hc:∀ x c,X.env.cells.lookup x=some c->c≠D)(hp:∀ p∈X.pn++pins,p.1≠D)
  (new:kR X.prog X.w (upd H D o) s.heap D o):Inv X pins σ (upd H D o) s:=by
 have ne:∀ b u,H b=some u->b≠D:=λ b u e z=>by rw[z,hn]at e;cases e
 refine⟨I.ok,I.os,I.bare,⟨I.base.keep,I.base.slot,λ b ob e n hx=>?_,I.base.there,λ b xs e=>?_,λ b ob u e=>?_,λ b ps e=>?_⟩,I.loc,I.cell,?_,λ x c e=>?_,λ p hp'=>?_,λ b u e=>?_,I.len⟩
 ·have:b≠D:=bw (aJ (aE e) hs);rw[ja this];exact I.base.free b ob e n hx
 ·have q:=I.base.tK b xs e;rw[ja (ne _ _ q)];exact q
 ·have q:=I.base.tL b ob u e;rw[ja (ne _ _ q)];exact q
 ·obtain⟨more,q⟩:=I.base.A1 b ps e;exact⟨more,by rw[ja (ne _ _ q)];exact q⟩
 ·rw[ja hL.symm];exact I.free
 ·rw[ja (hc x c e)];exact I.qk x c e
 ·obtain⟨a1,a2,a3⟩:=I.pin p hp';exact⟨a1,by rw[ja (hp p hp')];exact a2,a3⟩
 ·by_cases hb:b=D
  ·subst hb;rw[iU]at e;cases e;exact new
  ·rw[ja hb]at e;exact(I.hok b u e).CA (λ c v _ q=>q) (λ c q=>by rw[ja (ne _ _ q)];exact q) λ c xs q=>by rw[ja (ne _ _ q)];exact q
end
def C2 (n:Nat)(g:TG):Prop:=∀ x σ H (Q:St->Hp->Prop),g x σ H Q->g x σ H λ σ2 H2=>(∀ j,n<=j->σ2[j]?=σ[j]?)/\σ2.length=σ.length/\Q σ2 H2
def GA (n:Nat)(g:TGs):Prop:=∀ xs σ H (Q:St->Hp->Prop),g xs σ H Q->g xs σ H λ σ2 H2=>(∀ j,n<=j->σ2[j]?=σ[j]?)/\σ2.length=σ.length/\Q σ2 H2
theorem jX {n i:Nat}(h:i<n:=by decide):C2 n (jt i):=λ x σ H Q q=>⟨λ j hj=>bM (by lia),by simp,q⟩
theorem lC {n:Nat}:GA n wV:=λ xs σ H Q ⟨e,q⟩=>⟨e,λ _ _=>rfl,rfl,q⟩
theorem jE {n i:Nat}{u:TGs}(h:i<n)(h2:GA n u):GA n (lG (jt i) u):=λ xs σ H Q ⟨v,r,e,q⟩=>by refine⟨v,r,e,?_⟩;have q2:=h2 r (σ.set i (some v)) H Q q;have q3:=h2 r (σ.set i (some v)) H _ q2;show u r (σ.set i (some v)) H _;refine Eq.mp ?_ q2;congr 1;funext σ2 H2;simp only[gy];refine propext ⟨λ⟨a,b,c⟩=>⟨λ j hj=>(a j hj).trans (bM (by lia)),b,c⟩,λ⟨a,b,c⟩=>⟨λ j hj=>(a j hj).trans (bM (by lia)).symm,b,c⟩⟩
theorem mj {n k:Nat}{K:iF}{t:TGs}(h:GA n t):C2 n (wW K k t):=λ x σ H Q ⟨a,xs,e,h1,h2,q⟩=>⟨a,xs,e,h1,h2,h xs σ H Q q⟩
def tLC (own:List Str)(ix:List Nat)(wi:TI)(g:TG)(tc:TT)(te:TE):TE:=λ σ H Q=>wi σ H λ J H1=>∃ W:Nat->Nat->List V->Hp->Prop,(∃ m,W 0 m [] H1)/\∀ i m ys H,W i m ys H ->
 (J.stop i H/\∀ p,H p=none->Q (.ref p) (upd H p (.lst ys))) \/
 (J.go i H/\ys.length<sizeLine/\∀ x H',J.yld i H x H'->g x (kQ own ix σ) H' λ σ2 H2=>tc σ2 H2 λ b H3=>if b=true then te σ2 H3 λ y H4=>∃ m',m'<m/\W (i+1) m' (ys++[y]) H4 else ∃ m',m'<m/\W (i+1) m' ys H3)
section
variable {X:Cx}{pins:iJ}{σ:St}{H:Hp}{s:iH}{own fr:List Str}{ix:List Nat}{scope:Scope}{tg iter elt:Expr}{ifs:List Expr}{pos:Pos}{g:TG}{tc:TT}{te:TE}
theorem C3 (I:Inv X pins σ H s)(hc:X.calm=true)(S:mh X scope own fr ix){J:It}{fp:List Addr}{it:Addr}{tn:Nat->Heap->Prop}(T:Turn X.prog X.w X.K tg J fp it tn)(st:tn 0 s.heap)(hf:∀ b∈fp,vc X pins H b)
  (hg:∀ C,PG (X.comp (own++fr) scope C s H fp) tg g) (hgo:C2 own.length g) (ht:∀ C,PF (X.comp (own++fr) scope C s H fp) ifs tc) (he:∀ C,PE (X.comp (own++fr) scope C s H fp) elt te)
  {Qe:VK} {W:Nat->Nat->List V->Hp->Prop} {m0:Nat} (w0:W 0 m0 [] H) (turn:∀ i m ys H,W i m ys H ->
   (J.stop i H/\∀ p,H p=none->Qe (.ref p) (upd H p (.lst ys))) \/
   (J.go i H/\ys.length<sizeLine/\∀ x H',J.yld i H x H'->g x (kQ own ix σ) H' λ σ2 H2=>tc σ2 H2 λ b H3=>if b=true then te σ2 H3 λ y H4=>∃ m',m'<m/\W (i+1) m' (ys++[y]) H4 else ∃ m',m'<m/\W (i+1) m' ys H3))
  {E:ir} {RR:iG->Addr->Result->iH->Prop}
  (fin:∀ D C s' H',Inv X pins σ H' s'->Qe (.ref D) H'->s.heap.objs.size<=C->H' C=none->(∃ m,s'.heap.Ns C m)->RR (.ref D) C (.ok .next) s') :
  wpAny (model X.prog X.w) X.A (newList []) (λ acc s₃=>wpAny (model X.prog X.w) X.A (newFunctionEnv scope X.env.globals (zW scope X.env) [] X.env.qual none .none (some X.env)) (λ cenv s₄ =>codeAny (model X.prog X.w) X.A (.compStart (.ListComp elt [⟨tg,iter,ifs,0⟩] scope pos) 0 (.ref it) acc {cenv with scope:=relabel scope X.env}) (RR acc cenv.locals) s₄) E s₃) E s:=by
 refine cu (wpAny_newFunctionEnv S.JU (by intro y hy;simp at hy) (λ h₁ hns₁ hsb₁=>?_) S.kind);dsimp only at hns₁ hsb₁ ⊢;generalize hH2:s.heap.push {cls:=.type "list",dict:=none,data:=.seq ([]:List iG).toArray}=H2 at hns₁ hsb₁ ⊢;have hC:H2.objs.size=s.heap.objs.size+1:=by rw[<-hH2,cQ]
 have hDC:s.heap.objs.size≠H2.objs.size:=by rw[hC];exact bw (g6 _)
 have hCle:s.heap.objs.size<=H2.objs.size:=by rw[hC];exact ib _
 have below:∀ b,b<s.heap.objs.size->b≠H2.objs.size/\b≠s.heap.objs.size:=λ b hb=>⟨by rw[hC];exact bw (fK hb),bw hb⟩;have old:∀ b o,s.heap.get? b=some o->h₁.get? b=some o:=λ b o e=>hsb₁.extBut b o (below b (aE e)).1 (ai _ (hH2▸ai _ e));have hacc:h₁.PlainList s.heap.objs.size #[]:=⟨_,hsb₁.extBut _ _ hDC (ai _ (hH2▸aS _ rfl))⟩;have hlt:∀ b∈fp,b<s.heap.objs.size:=λ b hb=>by obtain⟨o,e,_⟩:=T.obj 0 s.heap st b hb;exact aE e
 generalize hCC:H2.objs.size=C at *;generalize hDD:s.heap.objs.size=D at *;have hDs:s.heap.objs.size<=D:=gG hDD;have I0:Inv (X.comp (own++fr) scope C s H fp) [] (kQ own ix σ) H {s with heap:=h₁,toks:=s.toks+([]:List (Str×iG)).length}:=I.enter S hf (by rw[hDD];exact hlt) (by rw[hDD];exact hCle) hns₁ old;have st0:tn 0 h₁:=T.keep 0 _ _ st λ b _ o e=>old b o e;have nfs:D∉frs X.stack:=λ z=>by obtain⟨_,o,ho,_⟩:=I.stack.mem z;exact absurd (aE ho) (by rw[hDD];exact bD _)
 have ncell:∀ x c,(zW scope X.env).lookup x=some c->c≠D:=λ x c e z=>by obtain⟨v,q⟩:=I.cell x c (S.sub I.ok x c e);exact absurd q.lt (by rw[z,hDD];exact bD _)
 have nfp:D∉fp:=λ z=>bD _ (hlt D z);have fpS:∀ b∈fp,b∉frs X.stack:=λ b hb z=>by
  rcases aN.mp (I.A3 b z) with q | q
  ·exact(hf b hb).2.1 q
  ·exact(hf b hb).2.2.1 q
 have fpO:∀ (pl:iJ) (H':Hp),(∀ p∈pl,p.1=D)->(∀ b∈fp,H' b=none)->∀ b∈fp,vc (X.comp (own++fr) scope C s H fp) pl H' b:=λ pl H' hpl hn b hb =>
  ⟨hn b hb,(below b (hlt b hb)).1,fpS b hb,.inl hb,λ x c e=>(hf b hb).2.2.2.2.1 x c (S.sub I.ok x c e),λ p hp z=>by
   have hp:p∈pl:=by simpa [Cx.comp] using hp
   rw[hpl p hp]at z;exact nfp (z▸hb)⟩
 have loop:∀ s₃:iH,s₃={s with heap:=h₁,toks:=s.toks+([]:List (Str×iG)).length} ->
   codeAny (model X.prog X.w) X.A (.compLoop (.ListComp elt [⟨tg,iter,ifs,0⟩] scope pos) 0 (.ref it) (.ref D) (compEnvC scope (zW scope X.env) C X.env)) (RR (.ref D) C) s₃:=by
  rintro s₃ rfl;refine Bl (λ n s'=>∃ i ys its H',Inv (X.comp (own++fr) scope C s H fp) [] (kQ own ix σ) H' s'/\s'.heap.PlainList D its/\Vals ys its.toList/\H' D=none/\tn i s'.heap/\(∀ b∈fp,H' b=none)/\ys.length<=sizeLine/\W i n ys H') ?_ m0
   ⟨0,[],#[],H,I0,hacc,.nil,I.hok.fresh hDs,st0,λ b hb=>(hf b hb).1,bg _,w0⟩
  rintro n s' ⟨i,ys,its,H',I',acc',rv,hD',st',fr',hz,w'⟩;obtain⟨na,ha⟩:=id acc';have I1:Inv (X.comp (own++fr) scope C s H fp) [(D,{cls:=.type "list",data:=.seq its na})] (kQ own ix σ) H' s':=I'.xj λ p hp=>by
   have e:p=(D,({cls:=.type "list",data:=.seq its na}:Obj)):=by simpa using hp
   subst e;exact⟨ha,hD',hDC,nfs,λ v z=>by cases z⟩
  have hpl:∀ p∈[(D,({cls:=.type "list",data:=.seq its na}:Obj))],p.1=D:=λ p hp=>by
   have e:p=(D,({cls:=.type "list",data:=.seq its na}:Obj)):=by simpa using hp
   rw[e]
  rcases turn i n ys H' w' with⟨stop,qn⟩ | ⟨go,hys,step⟩
  ·refine thn (T.done (X.comp (own++fr) scope C s H fp) rfl rfl rfl hc i _ s' _ H' _ I1 (fpO _ H' hpl fr') st' stop) λ r s1 ⟨hr,I2⟩=>?_
   subst hr;have hD1:=(I2.pin (D,_) (a9 _ (bA.mpr rfl))).1;obtain⟨m1,hm1,_⟩:=I2.loc;have J1:Inv X pins σ H' s1:=I.RI I2.os I2.base I2.hok I2.bare λ b hb=>⟨(hf b hb).2.2.2.1,(hf b hb).2.1,(hf b hb).2.2.2.2.1,(hf b hb).2.2.2.2.2⟩;have hXD:X.s₀.heap.objs.size<=D:=by rw[<-hDD];exact I.sz
   have J2:Inv X pins σ (upd H' D (.lst ys)) s1:=J1.Gz hD' hXD (cX (by rw[<-hDD];exact I.lt)) (λ x c e z=>by
     obtain⟨v,q⟩:=I.cell x c e;exact absurd q.lt (by rw[z,hDD];exact bD _)) (λ p hp z=>by
     have:=aE (I.pin p hp).1;rw[z,hDD]at this;exact bD _ this) ⟨hz,its.toList,na,rv,by simpa using hD1⟩
   exact fin D C s1 _ J2 (qn D hD') hCle (by rw[ja (aX hDC)];exact I2.free) ⟨m1,hm1⟩
  ·refine thn (T.item (X.comp (own++fr) scope C s H fp) rfl rfl rfl hc i _ s' _ H' _ I1 (fpO _ H' hpl fr') st' go) λ r s1 ⟨u,hr,h1⟩=>?_
   subst hr;refine thn h1 λ _ s2 ⟨x,H2',I2,r2,y2,st2,fr2⟩=>?_;have I2':=I2.pinned (fpO _ H2' hpl fr2) (T.obj _ _ st2);refine thn (hg C _ s2 _ H2' x u _ I2' r2 (hgo _ _ _ _ (step x H2' y2))) λ _ s3 ⟨σ3,H3,I3,own3,len3,q3⟩=>?_;refine thn (ht C _ s3 σ3 H3 _ I3 q3) λ ok s4 ⟨H4,I4,q4⟩=>?_;have weak:∀ {pl H5 s5},Inv (X.comp (own++fr) scope C s H fp) pl σ3 H5 s5->Inv (X.comp (own++fr) scope C s H fp) pl (kQ own ix σ) H5 s5:=λ I5=>I5.weak len3.symm λ j v e=>by
    by_cases hj:own.length<=j
    ·rw[own3 j hj];exact e
    ·exfalso
     unfold kQ at e;rw[bW (by simp;lia),ax]at e;cases q:own[j]? with
     | none=>rw[q]at e;cases e
     | some a=>rw[q]at e;cases e
   have again:∀ {H5:Hp} {s5:iH} {ys':List V} {its':Array iG} {n':Nat},Inv (X.comp (own++fr) scope C s H fp) ([(D,({cls:=.type "list",data:=.seq its na}:Obj))]++vd fp s2.heap) σ3 H5 s5->W (i+1) n' ys' H5->Vals ys' its'.toList->ys'.length<=sizeLine ->
     ∀ h',(∀ b o,b≠D->s5.heap.get? b=some o->h'.get? b=some o)->h'.PlainList D its'->∃ i ys its H',Inv (X.comp (own++fr) scope C s H fp) [] (kQ own ix σ) H' {s5 with heap:=h'}/\h'.PlainList D its/\Vals ys its.toList/\H' D=none/\tn i h'/\(∀ b∈fp,H' b=none)/\ys.length<=sizeLine/\W i n' ys H':=by
    intro H5 s5 ys' its' n' I5 w5 rv5 hz5 h' k5 a5;have hD5:H5 D=none:=(I5.pin (D,_) (a9 _ (bL _ (bA.mpr rfl)))).2.1;have I6:Inv (X.comp (own++fr) scope C s H fp) [] (kQ own ix σ) H5 s5:=(weak I5).xj λ p hp=>absurd hp (by simp);refine⟨i+1,ys',its',H5,I6.turned (t':=s5.toks) k5 hD5 hDC (.inr hDs) ncell (λ p hp=>absurd hp (by simp[Cx.comp])),a5,rv5,hD5,T.keep _ _ _ st2 λ b hb o e=>k5 b o (λ z=>nfp (z▸hb)) (I5.pin (b,o) (a9 _ (a9 _ (pH hb e)))).1,λ b hb=>?_,hz5,w5⟩;obtain⟨o,e,d⟩:=T.obj _ _ st2 b hb;exact(I5.pin (b,o) (a9 _ (a9 _ (pH hb e)))).2.1
   have pinD:∀ {H5:Hp} {s5:iH},Inv (X.comp (own++fr) scope C s H fp) ([(D,({cls:=.type "list",data:=.seq its na}:Obj))]++vd fp s2.heap) σ3 H5 s5->s5.heap.PlainList D its:=λ I5 =>⟨na,(I5.pin (D,_) (a9 _ (bL _ (bA.mpr rfl)))).1⟩
   cases ok with
   | false =>rw[ah aI]at q4;rw[ah aI];obtain⟨m',hm',w4⟩:=q4;exact⟨m',hm',again I4 w4 rv hz s4.heap (λ _ _ _ e=>e) (pinD I4)⟩
   | true =>rw[af rfl]at q4;rw[af rfl];refine thn (he C _ s4 σ3 H4 _ I4 q4) λ y s5 ⟨v,H5,I5,r5,m',hm',w5⟩=>?_;have hl:=rv.length;refine wpAny_list_append_plain (hsz:=by simp at hl;lia) (pinD I5) λ h6 hl6 hs6=>?_;refine⟨m',hm',again I5 w5 (its':=its.push y) ?_ (by rw[aT,bF];lia) h6 (λ b o hb e=>hs6.extBut b o hb e) hl6⟩;rw[Array.toList_push];exact Paired.snoc rv r5
 exact codeAny_compStart_list (loop _ rfl) (T.self _ 0 _ _ _ st0 (loop _ rfl))
theorem OA (hc:X.calm=true)(S:mh X scope own fr ix){wi:TI}(hi:PI X tg iter wi)(hg:∀ C s H fp,PG (X.comp (own++fr) scope C s H fp) tg g)(hgo:C2 own.length g)
  (ht:∀ C s H fp,PF (X.comp (own++fr) scope C s H fp) ifs tc) (he:∀ C s H fp,PE (X.comp (own++fr) scope C s H fp) elt te) (hs:∀ x,foldedSetIterable iter X.env x=pure x:=by intro _;rfl) :
  PE X (.ListComp elt [⟨tg,iter,ifs,0⟩] scope pos) (tLC own ix wi g tc te):=by
 intro pins s σ H Q I h;rw[eval_ListComp];refine wpAny_comprehension_free (use:=none) rfl hs (yh (S.cells I.ok)) S.kind S.loc (thn (hi pins s σ H _ I h) λ v s1 h1=>thn h1 λ itv s2 h2=>?_);obtain⟨it,fp,tn,J,H2,e,I2,T,st2,f2,W,⟨m0,w0⟩,turn⟩:=h2;subst e;refine C3 (Qe:=Q) (RR:=λ acc C=>compPost (model X.prog X.w) X.A X.xe none (EP X pins σ Q) acc C) I2 hc S T st2 f2 (λ C=>hg C _ _ _) hgo (λ C=>ht C _ _ _) (λ C=>he C _ _ _) w0 turn ?_;rintro D C s' H' J1 q hC hn ⟨m,hm⟩;refine⟨m,hm,λ h'' hs''=>⟨.ref D,H',?_,rfl,q⟩⟩;exact J1.turned (t':=s'.toks) (λ b o hb e=>hs''.extBut b o hb e) hn (cX (aJ I2.lt hC)) (.inr (bf I2.sz hC)) (λ x c e z=>by
  obtain⟨v,q⟩:=I2.cell x c e;exact absurd q.lt (by rw[z];exact fC.mpr hC)) (λ p hp z=>by
  have:=aE (I2.pin p hp).1;rw[z]at this;exact absurd this (fC.mpr hC))
theorem JV {i:Nat}{x:Str}{px spos:Pos}(hN:X.N.Nodup)(hi':X.N[i]?=some x)(hx:Loc X.env.scope x)(hc:X.calm=true)(S:mh X scope own fr ix){wi:TI}(hi:PI X tg iter wi)(hg:∀ C s H fp,PG (X.comp (own++fr) scope C s H fp) tg g)(hgo:C2 own.length g)
  (ht:∀ C s H fp,PF (X.comp (own++fr) scope C s H fp) ifs tc) (he:∀ C s H fp,PE (X.comp (own++fr) scope C s H fp) elt te)
  (hsw:swapsWith (.ListComp elt [⟨tg,iter,ifs,0⟩] scope pos) (some (.Name x px)) spos.line X.env=pure true:=by rfl) (hf:X.fn x=true\/X.env.scope.names.lookup x=some .local:=by trivial)
  (hs:∀ x,foldedSetIterable iter X.env x=pure x:=by intro _;rfl) :
  PS X (.Assign [.Name x px] (.ListComp elt [⟨tg,iter,ifs,0⟩] scope pos) spos) (λ D σ H=>tLC own ix wi g tc te σ H λ v H'=>D.nx (σ.set i (some v)) H'):=by
 intro pins s σ H D I h;rw[exec_Assign_Name_used _ _ _ _ hsw];refine aa (gX (aa ?_));show wpAny _ X.A (do let _<-comprehension (.ListComp elt [⟨tg,iter,ifs,0⟩] scope pos) scope X.env _ (newList []) false (eval iter X.env) (some (assign (.Name x px) X.env))) _ _ s;refine aa (fh (wpAny_comprehension_free (use:=some (assign (.Name x px) X.env)) (Q:=λ _ s'=>SP X pins D .next s') rfl hs (yh (S.cells I.ok)) S.kind S.loc
  (thn (hi pins s σ H _ I h) λ v s1 h1=>thn h1 λ itv s2 h2=>?_)) (λ _ s' hq=>ao (ao hq)) λ _ _ e=>e)
 obtain⟨it,fp,tn,J,H2,e,I2,T,st2,f2,W,⟨m0,w0⟩,turn⟩:=h2;subst e;refine C3 (Qe:=λ v H'=>D.nx (σ.set i (some v)) H') (RR:=λ acc C=>compPost (model X.prog X.w) X.A X.xe (some (assign (.Name x px) X.env)) (λ _ s'=>SP X pins D .next s') acc C) I2 hc S T st2 f2 (λ C=>hg C _ _ _) hgo (λ C=>ht C _ _ _) (λ C=>he C _ _ _) w0 turn ?_;rintro Dd C s' H' J1 q hC hn ⟨m,hm⟩;show wpAny _ X.A (assign (.Name x px) X.env (.ref Dd)) _ _ _;refine wpAny_assign_Name (Ah (v:=.ref Dd) J1 hN hi' hx rfl (λ s'' J2 ⟨a,hsb,ha⟩=>?_) hf);have neC:a≠C:=by
  rcases ha with ha | ha
  ·rw[ha];exact bw (aJ I2.lt hC)
  ·obtain⟨v,q⟩:=I2.cell x a ha;exact bw (aJ q.lt hC)
 refine⟨m,hm.sameBut hsb neC.symm,λ h'' hs''=>⟨_,H',?_,q⟩⟩;exact J2.turned (t':=s''.toks) (λ b o hb e=>hs''.extBut b o hb e) hn (cX (aJ I2.lt hC)) (.inr (bf I2.sz hC)) (λ x c e z=>by
  obtain⟨v,q⟩:=I2.cell x c e;exact absurd q.lt (by rw[z];exact fC.mpr hC)) (λ p hp z=>by
  have:=aE (I2.pin p hp).1;rw[z]at this;exact absurd this (fC.mpr hC))
end
end L2
namespace Tb
open PySem PySem.W PySem.Spec PyProof.Rows
def pLt (a b:Int×Int):Bool:=decide (a.1<b.1) || (decide (a.1=b.1)&&decide (a.2<b.2))
theorem t4 (a b:Int×Int):pLt a b=true↔a.1<b.1\/(a.1=b.1/\a.2<b.2):=by simp[pLt]
theorem vx (a b:Int×Int):pLt a b=false↔¬ (a.1<b.1\/(a.1=b.1/\a.2<b.2)):=by rw[<-t4];simp
def PO:KeyOrd where
 α:=Int×Int
 blt:=pLt
 irrefl:=λ a=>by rw[vx];lia
 trans:=λ a b c h1 h2=>by rw[t4]at *;lia
 negTrans:=λ a b c h=>by rw[t4]at *;rw[t4];lia
 total:=λ a b h1 h2=>by
  rw[vx]at h1 h2
  exact Prod.ext (by lia) (by lia)
section
variable {prog:Program}{w:World}{A:Around}{E:ir}{s:iH}{h₀:Heap}{L:Addr}{m:iq}{news:iJ}
theorem JW {h:Heap}{x y:Int}{b:Addr}(k:m_ prog w h [x,y] b):∃ o n t u,h.get? b=some o/\o.cls=.type "tuple"/\o.data=.seq #[.int x t,.int y u] n:=by
 obtain⟨o,its,n,e1,e2,e3,e4⟩:=k;generalize hits:its.toList=L at e4;cases e4 with
 | cons h1 e5=>cases e5 with
  | cons h2 e6 =>cases e6;obtain⟨t,q1⟩:=fH h1;obtain⟨u,q2⟩:=fH h2;refine⟨o,n,t,u,e1,e2,?_⟩;rw[e3,<-q1,<-q2];congr 1;apply Array.ext';rw[hits]
theorem v_ {h:Heap}:∀ (vs:List iG),(∀ v∈vs,∃ b x y,v=.ref b/\m_ prog w h [x,y] b)->∃ fs:List iG,KatTups h vs fs/\fs.length=vs.length/\∀ f∈fs,∃ i t,f=Value.int i t
 | [],_=>⟨[],trivial,rfl,λ f hf=>by cases hf⟩
 | v::r,hv=>by
  obtain⟨fs,q1,q2,q3⟩:=v_ r λ u hu=>hv u (av _ hu);obtain⟨b,x,y,rfl,tk⟩:=hv v ar;obtain⟨o,n,t,u,e1,e2,e3⟩:=JW tk;refine⟨.int x t::fs,KatTups.cons e1 e2 e3 rfl q1,by simp[q2],λ f hf=>?_⟩;rcases aN.mp hf with rfl | hf
  ·exact⟨x,t,rfl⟩
  ·exact q3 f hf
theorem JX {i j:Nat}{vs:List iG}{a b:Int×Int}{p q:Addr}{C:Bool->iH->Prop}(hi:vs[i]?=some (.ref p))(hj:vs[j]?=some (.ref q))(ki:m_ prog w s.heap [a.1,a.2] p)(kj:m_ prog w s.heap [b.1,b.2] q)(h:C (pLt a b) s) :
  kas_ask prog w A (tuples' true) vs i j C s:=by
 unfold kas_ask;rw[au,hi,au,hj,ft,ft];obtain⟨o1,n1,t1,u1,e1,c1,d1⟩:=JW ki;obtain⟨o2,n2,t2,u2,e2,c2,d2⟩:=JW kj;refine kat_lt e1 d1 e2 d2 ?_;show KatLex prog w A true _ C [(Value.int a.1 t1,Value.int b.1 t2),(Value.int a.2 u1,Value.int b.2 u2)] 0 s;refine kat_cons (wpAny_eqBool_int ?_);by_cases h1:a.1=b.1
 ·rw[show(a.1==b.1)=true by simpa using h1]
  refine kat_yes (kat_cons (wpAny_eqBool_int ?_));by_cases h2:a.2=b.2
  ·rw[show(a.2==b.2)=true by simpa using h2]
   refine kat_yes (kat_nil ?_);have e:pLt a b=false:=by rw[vx];lia
   rw[e]at h;exact h
  ·rw[show(a.2==b.2)=false by simpa using h2]
   refine kat_no ?_;show wpAny _ _ (oneLt' false (.int a.2 u1) (.int b.2 u2)) _ _ _;refine kat_one _ _ (lt_int ?_);have e:pLt a b=decide (a.2<b.2):=by simp[pLt,h1]
   rw[e]at h;exact h
 ·rw[show(a.1==b.1)=false by simpa using h1]
  refine kat_no ?_;show wpAny _ _ (oneLt' true (.int a.1 t1) (.int b.1 t2)) _ _ _;refine oneLt_int ?_;have e:pLt a b=decide (a.1<b.1):=by simp[pLt,h1]
  rw[e]at h;exact h
theorem E9 {D:Addr}{vs:List iG}{X:Nat->Int×Int}{Q:ir}(F:Fr h₀ L s.heap m)(N:News h₀ L s.heap ((D,listOf vs.toArray 0)::news))(hD:∀ p∈news,p.1≠D)(h2:2<=vs.length)(h64:vs.length<64)
  (ht:∀ h',Fr h₀ L h' m->News h₀ L h' news->∀ (i:Nat) v,vs[i]?=some v->∃ b,v=.ref b/\m_ prog w h' [(X i).1,(X i).2] b)
  (h:∀ (p:Array Nat) h' c,Pm vs.length p->Sor (O:=PO) X p vs.length->Fr h₀ L h' m->News h₀ L h' ((D,listOf (List.toArray (p.toList.map λ i=>vs.getD i Value.none)) c)::news)->Q .none {s with heap:=h'}) :
  wpAny (model prog w) A (call (.builtin "list.sort") [.ref D]) Q E s:=by
 refine kat_lsort F N (.head hD) (by simp) h2 h64 λ e1 h' F' N'=>?_;have N'':News h₀ L h' news:=λ p hp=>N' p (av _ hp);have keys:=ht h' F' N'';have at_i:∀ i,i<vs.length->∃ b,vs[i]?=some (.ref b)/\m_ prog w h' [(X i).1,(X i).2] b:=λ i hi=>by obtain⟨b,e,tk⟩:=keys i vs[i] (by simp[hi]);exact⟨b,by rw[<-e];simp[hi],tk⟩
 obtain⟨fs,q1,q2,q3⟩:=v_ (prog:=prog) (w:=w) (h:=h') vs λ v hv=>by obtain⟨i,hi,ei⟩:=bV hv;obtain⟨b,e,tk⟩:=keys i v (by rw[<-ei];simp[hi]);exact⟨b,_,_,e,tk⟩
 refine kat_kind (s:={s with heap:=h'}) (T:=.type "int") q1 (by lia) (λ v hv=>?_) (by decide) ?_
 ·obtain⟨i,t,rfl⟩:=q3 v hv;exact Looks.of_pure rfl
 ·show(kas_sort vs.length).kasWp (kas_ask prog w A.in1 (tuples' true) vs) _ _
  refine Tr.wp (n:=vs.length) (c:=cO (O:=PO) X) (R:=λ p=>Pm vs.length p/\Sor (O:=PO) X p vs.length) (λ i j C hi hj hc=>?_) (λ p hp=>?_) _ (PZ (by lia))
  ·obtain⟨b1,v1,k1⟩:=at_i i hi;obtain⟨b2,v2,k2⟩:=at_i j hj;exact JX v1 v2 k1 k2 hc
  ·exact KasFin.intro F' N' (.head hD) λ h2 c F2 N2=>h p h2 c hp.1 hp.2 F2 N2
theorem E_ {D:Addr}{vs:List iG}{Q:ir}(ho:s.heap.get? D=some (seqObj "list" vs.toArray 0))(h2:vs.length<2)
  (h:∀ h' c,(∀ b o,b≠D->s.heap.get? b=some o->h'.get? b=some o)->h'.get? D=some (seqObj "list" vs.toArray c)->Q .none {s with heap:=h'}) :
  wpAny (model prog w) A (call (.builtin "list.sort") [.ref D]) Q E s:=by
 have hlt:D<s.heap.objs.size:=aE ho;refine cH slot_list_sort ⟨_,ho,rfl⟩ entry_list_sort ?_ (args_list_sort _);rw[list_sort_plain];refine aa (listItems_at ho rfl ?_);refine aa (listUpdate_at ho rfl ?_ (by simp;rw[sizeLine_eq];lia) (by simp));obtain⟨e1,ho1⟩:∃ e1,(s.heap.update D (Obj.mapSeq λ _=>#[])).get? D=some (seqObj "list" #[] e1):=⟨_,get?_update_seq ho λ _=>#[]⟩;refine aa (seqEpoch_at ho1 rfl ?_);refine aa (wpAny_newTuple ?_ (by rw[sizeLine_eq];simp;lia));refine aa (wpAny_newList ?_ (by simp));refine dF ?_;have ho6:(((s.heap.update D (Obj.mapSeq λ _=>#[])).push (seqObj "tuple" vs.toArray 0)).push (seqObj "list" #[] 0)).get? D=some (seqObj "list" #[] e1) :=
  ai _ (ai _ ho1)
 show wpAny (model prog w) _ _ _ _ {s with heap:=((s.heap.update D (Obj.mapSeq λ _=>#[])).push (seqObj "tuple" vs.toArray 0)).push (seqObj "list" #[] 0)};dsimp only;have hsz:vs.toArray.size<2:=by simpa using h2
 rw[af hsz,af hsz];refine aa (ao ?_);rw[StateT.run_pure];refine aa (ao ?_);dsimp only;refine aa (seqEpoch_at ho6 rfl ?_);have hout:(arrOf (SortSt.mk' general' (vs.toArray.zip vs.toArray) #[] 7 none)).map (·.2)=vs.toArray:=by show(vs.toArray.zip vs.toArray).map (·.2)=vs.toArray;apply Array.ext';simp;exact List.map_snd_zip (ak _)
 rw[hout];refine aa (listUpdate_at ho6 rfl ?_ (by simp) (by simp;rw[sizeLine_eq];lia));simp only[bne_self_eq_false,aW,bY];obtain⟨c,hc⟩:∃ c,((((s.heap.update D (Obj.mapSeq λ _=>#[])).push (seqObj "tuple" vs.toArray 0)).push (seqObj "list" #[] 0)).update D (Obj.mapSeq λ _=>vs.toArray)).get? D=some (seqObj "list" vs.toArray c):=⟨_,get?_update_seq ho6 λ _=>vs.toArray⟩;refine ao ⟨_,rfl,h _ c (λ b o hb e=>?_) hc⟩;rw[Heap.get?_update_ne _ _ _ _ hb];refine ai _ (ai _ ?_);rw[Heap.get?_update_ne _ _ _ _ hb];exact e
theorem JY {r:Addr}{Q:Bool->iH->Prop}(hT:s.TypeIs (.ref r) "set")(h:Q false s):wpAny (model prog w) A (Builtin.List.listLengthHint (.ref r)) Q E s:=by
 unfold Builtin.List.listLengthHint;refine aa (wpAny_specialOf hT PySem.F.slot_set_len.lookup ?_);generalize hid:("set.__len__":String)=id0
 wp_delta
 rw[show splitId id0=some ("set","__len__") from by subst hid;decide +kernel];subst hid;refine aa (wpAny_isInstance (T:="set") (b:=true) hT (by rw[isSubtype_type];kernel_rfl) ?_);refine wpAny_ite_split (λ hab=>absurd hab (by decide)) (λ _=>?_);refine wpAny_ite_split (λ _=>?_) (λ hab=>absurd (by decide +kernel) hab);exact aa (wpAny_typeOf hT (ao h))
theorem JZ {S:Addr}{oS:Obj}{es:Array (Int×iG)}{ep:Nat}{t:SetTable}{Q:ir}(hS:s.heap.get? S=some oS)(hx:oS.ExactSet)(hd:oS.data=.set es ep t)(T:TOk t (es.toList.map (·.1)))(hp:t.plain=true)
  (hQ:Q (.ref s.heap.objs.size) {s with heap:=s.heap.push {cls:=.type "set_iterator",data:=.fields #[rawInt 0,rawInt 0,.ref S,rawInt es.size,rawInt ep]}}):wpAny (model prog w) A (pyIter (.ref S)) Q E s:=by
 have hT:s.TypeIs (.ref S) "set":=⟨oS,hS,hx.1⟩;have hfit:=fits_of T (n:=es.size) (by simp);refine wpAny_pyIter_slot hT F.slot_set_iter (cH F.slot_set_iter hT zV ?_ (F.args_set_iter_1 _));unfold Builtin.«frozenset.__iter__»;refine aa ?_;unfold Builtin.Frozenset.slot0;refine aa (ao ?_);show wpAny _ _ (pure S) _ _ _;refine ao ?_;refine aa ?_;unfold Builtin.Frozenset.sizeOf;refine aa (qC hS hd T (ao ?_));refine aa ?_;unfold setDrawn;refine aa (cA hS hd hfit ?_);dsimp only;refine aa (Bi ?_);refine ao ?_;show wpAny _ _ (if (!w.params.followText "set-order"&&(!t.plain&&decide (es.size>1)))=true then _ else _) _ _ _;rw[hp];simp only[dJ,h_,gL,aW,bY];refine aa (ao ?_);refine aa (aa (cA hS hd hfit (ao ?_)));refine aa (cu (ao ⟨_,rfl,"set_iterator",_,⟨_,aS _ rfl,rfl⟩,ly.lookup,?_⟩));exact hQ
theorem ME {S:Addr}{oS:Obj}{es:Array (Int×iG)}{ep:Nat}{t:SetTable}(hx:oS.ExactSet)(hd:oS.data=.set es ep t)(T:TOk t (es.toList.map (·.1)))(hp:t.plain=true)(hl:t.led=!(w.params.followText "set-order")) :
  KdlSrc prog w "set" S S es.size (λ i v=>∃ hv,(seen w S ep es)[i]?=some (hv,v)) (λ h=>h.get? S=some oS) where
 type:=λ _ e=>⟨oS,e,hx.1⟩
 there:=λ _ e=>⟨aE e,aE e⟩
 keep:=λ _ _ e hk=>hk S (.inl rfl) oS e
 notList:=by decide
 notTuple:=by decide
 hint:=λ _ _ _ _ e hq=>JY ⟨oS,e,hx.1⟩ hq
 iter:=λ A s hh e=>⟨_,_,(λ _ _ hq=>JZ e hx hd T hp hq),JT hh (bw (aE e)) hd T hp hl,⟨⟨_,0,aS _ rfl,rfl,rfl,λ _=>E6 T.ri⟩,ai _ e⟩⟩
end
end Tb
namespace L2
open PySem PySem.W PySem.Spec PyProof.Rows Tb
section
variable {X:Cx}{pins:iJ}{σ:St}{H:Hp}{s:iH}
theorem yi {prog:Program}{w:World}:∀ {k:List Int} {its:List iG},Vals (k.map V.int) its->ItemsAre (intKind prog w) k its
 | [],_,.nil=>.nil
 | i::r,_,.cons ⟨t,e⟩ q=>by subst e;exact .cons (intKind_is _ _ _ _) (yi q)
theorem GB {prog:Program}{w:World}{H:Hp}{h:Heap}(ok:HOk prog w H h){k:List Int}{b:Addr}(e:H b=some (.tup (k.map V.int))):m_ prog w h k b:=by obtain⟨_,its,r,o,e1,e2,n,e3⟩:=ok b _ e;exact⟨o,its.toArray,n,e1,e2,e3,by simpa using yi r⟩
def Ij (H:Hp)(vs:List V)(kk:List (List Int)):Prop:=Paired (λ v k=>∃ b,v=V.ref b/\H b=some (.tup (k.map V.int))) vs kk
def MF (w:World)(H:Hp)(S:Addr)(ks:List (List Int)):Prop:=∃ oS es ep t,H S=some (.ext λ h=>h.get? S=some oS)/\oS.ExactSet/\oS.data=.set es ep t/\TOk t (es.toList.map (·.1))/\t.plain=true/\t.led=!(w.params.followText "set-order")/\es.size<=76/\ks.Nodup /\
 Paired (λ k (e:Int×iG)=>∃ b,e.2=Value.ref b/\H b=some (.tup (k.map V.int))) ks es.toList
theorem vy {α β:Type}{F:α->β->Prop}:∀ {xs:List α} {ys:List β},Paired F xs ys->∀ (i:Nat) (x:α),xs[i]?=some x->∃ y,ys[i]?=some y/\F x y
 := by
  intro xs ys h;induction h with
  | nil=>intro i x h;simp at h
  | cons h t ih =>
    intro i x e;cases i with
    | zero =>rw[bE]at e;cases e;exact⟨_,rfl,h⟩
    | succ i =>rw[bh]at e;obtain⟨y,q1,q2⟩:=ih i x e;exact⟨y,by rw[bh];exact q1,q2⟩
theorem J0 (hc:X.calm=true)(hu:X.A.units+64<cLine):kz X (.type "set") (λ xs H Q=>∃ l vs kk,xs=[V.ref l]/\SqL X.K H l vs/\Ij H vs kk/\vs.length<=40 /\
  ∀ S o ks,H S=none->MF X.w (upd H S o) S ks->(∀ k,k∈ks↔k∈kk)->Q (.ref S) (upd H S o)):=by
 intro pins s σ H xs us Q I r h;obtain⟨l,vs,kk,rfl,hl,ht,hz,q⟩:=h;obtain⟨u,rfl,ru⟩:=vals1 r;cases ru;obtain⟨its,rv,p,_⟩:=I.list hl;have hlen:vs.length=its.length:=rv.length;have hkl:vs.length=kk.length:=ht.length;refine CW (G:=λ k b=>H b=some (.tup (k.map V.int))) (I.ok.hd hc) (bR (show X.A.units+40<=X.A.units+64 by lia) hu) p.isList (kk:=kk) (by simp;lia) (by simp;lia) (λ j v hj=>?_) λ h' tk ks kp S' m'=>?_
 ·have hj:its[j]?=some v:=by simpa using hj
  have hjl:j<vs.length:=by have:=(ba.mp hj).1;lia
  obtain⟨k,hk1,b,hb,hb2⟩:=vy ht j vs[j] (by simp[hjl]);obtain⟨u,hu1,hu2⟩:=rv.get (x:=vs[j]) (i:=j) (by simp[hjl]);rw[hj]at hu1;cases hu1;rw[hb]at hu2;cases hu2;exact⟨k,b,hk1,rfl,GB I.hok hb2,hb2⟩
 ·obtain⟨oS,es,ep,t,ho,hx,hd,T,En,hp,hl',hr,nd⟩:=S';have keep:∀ b u,s.heap.get? b=some u->h'.get? b=some u:=λ b u e=>kp b u (aE e) e;have hn:=I.hok.fresh (ak s.heap.objs.size);have I':Inv X pins σ (upd H s.heap.objs.size (.ext λ h=>h.get? s.heap.objs.size=some oS)) {s with heap:=h',toks:=tk}:=I.laid keep (ak _) ⟨ho,⟨_,ho⟩,λ h1 h2 a b=>b _ a⟩;refine⟨.ref s.heap.objs.size,_,I',rfl,q _ _ ks hn ⟨oS,es,ep,t,iU,hx,hd,T,hp,hl',?_,nd,pK (λ k e ⟨b,e1,_,e2⟩=>⟨b,by rw[e1],by rw[ja (jn e2 hn)];exact e2⟩) En⟩ m'⟩;rcases hr with⟨_,z⟩ | ⟨_,z⟩ | ⟨_,z⟩<;>lia
theorem Inv.GC {h':Heap}{tk:Nat}{m:iq}(I:Inv X pins σ H s)(hm:s.heap.Ns X.env.locals m)(F:Fr (Att.m9 s.heap) X.env.locals h' m)(N:News (Att.m9 s.heap) X.env.locals h' (rJ (Att.m9 s.heap) s.heap X.env.locals)) :
  Inv X pins σ H {s with heap:=h',toks:=tk}:=by
 have no:∀ b,(Att.m9 s.heap).get? b=none:=λ b=>gm (bg _);have keep:∀ b o,b≠X.env.locals->s.heap.get? b=some o->h'.get? b=some o:=λ b o hb e=>(N (b,o) (CB hb (no b) e)).1;refine I.step (g':=s.gens) (d':=s.drawn) (ch:=[]) (λ _ z=>nomatch z) (λ b o hb _ _ e _=>keep b o hb e) (λ b o hb _ _ e _=>⟨o.slots,keep b o hb e⟩) (λ _ _ _ _ n=>n) (λ b o _ e=>?_) (λ _ _ e=>e) (λ _ _ _ e=>e) (λ b ps e=>⟨#[],by rw[e];simp⟩) (λ m' hm'=>?_) (λ b u e=>?_) I.bare
 ·by_cases hb:b=X.env.locals
  ·obtain⟨o',_,_,ho',_⟩:=F.ns;exact⟨o',by rw[hb];exact ho'⟩
  ·exact⟨o,keep b o hb e⟩
 ·have:m'=m:=by
   obtain⟨o1,es1,ep1,a1,a2,_,a4⟩:=hm;obtain⟨o2,es2,ep2,b1,b2,_,b4⟩:=hm';rw[a1]at b1;cases b1;rw[a2]at b2;cases b2;funext x;rw[<-a4 x,<-b4 x]
  rw[this];exact F.ns
 ·refine(I.hok b u e).CA (λ c v hc q=>keep c v ?_ q) (λ _ q=>q) λ _ _ q=>q
  rcases hc with z | z
  ·intro hL;have hf:=I.free;rw[<-hL,z,e]at hf;cases hf
  ·intro hL;have hf:=I.free;rw[<-hL,z]at hf;cases hf
theorem J3 {P:Program}{w:World}{H:Hp}{h:Heap}{a:Addr}{o:HO}(x:kR P w H h a o):∃ ob,h.get? a=some ob:=by
 cases o with
 | lst xs=>obtain⟨_,_,_,_,e⟩:=x;exact⟨_,e⟩
 | tup xs=>obtain⟨_,_,_,ob,e,_⟩:=x;exact⟨ob,e⟩
 | dK kvs=>obtain⟨_,_,_,_,ob,_,_,e,_⟩:=x;exact⟨ob,e⟩
 | dT kvs=>obtain⟨_,_,_,_,ob,_,_,e,_⟩:=x;exact⟨ob,e⟩
 | set S n=>obtain⟨ob,_,_,_,e,_⟩:=x;exact⟨ob,e⟩
 | ins C dx fs=>obtain⟨_,_,_,e,_⟩:=x;exact⟨_,e⟩
 | own y=>obtain⟨ob,e⟩:=x;exact⟨ob,e⟩
 | xd fs=>obtain⟨_,⟨ob,_,_,e,_⟩,_⟩:=x;exact⟨ob,e⟩
 | rng lo hi=>obtain⟨_,_,_,e⟩:=x;exact⟨_,e⟩
 | frz ob u=>obtain⟨e,_⟩:=x;exact⟨_,e⟩
 | tbl ps=>exact⟨_,x⟩
 | met f y=>exact⟨_,x⟩
 | ext φ=>obtain⟨_,⟨ob,e⟩,_⟩:=x;exact⟨ob,e⟩
theorem C4 {α β:Type}{F:α->β->Prop}{ys ys':List β}(p:ys.Perm ys'):∀ {xs:List α},Paired F xs ys->∃ xs',xs.Perm xs'/\Paired F xs' ys':=by
 induction p with
 | nil=>intro xs h;exact⟨xs,.refl _,h⟩
 | cons y _ ih =>
  intro xs h;cases h with
  | cons h t =>obtain⟨xs',q1,q2⟩:=ih t;exact⟨_,q1.cons _,.cons h q2⟩
 | swap y z l =>
  intro xs h;cases h with
  | cons h1 t =>
   cases t with
   | cons h2 t=>exact⟨_,List.Perm.swap _ _ _,.cons h2 (.cons h1 t)⟩
 | trans _ _ ih1 ih2 =>intro xs h;obtain⟨x1,q1,q2⟩:=ih1 h;obtain⟨x2,q3,q4⟩:=ih2 q2;exact⟨x2,q1.trans q3,q4⟩
theorem t5 {α β γ:Type}{F:β->γ->Prop}(f:α->β):∀ {xs:List α} {ys:List γ},Paired F (xs.map f) ys->Paired (λ a y=>F (f a) y) xs ys
 | [],_,.nil=>.nil
 | _::_,_,.cons h t=>.cons h (t5 f t)
theorem qE {α β γ:Type}{F:β->γ->Prop}{f:α->β}{g:α->γ}:∀ (l:List α),(∀ a∈l,F (f a) (g a))->Paired F (l.map f) (l.map g)
 | [],_=>.nil
 | a::r,h=>.cons (h a ar) (qE r λ b hb=>h b (av _ hb))
theorem qF {α:Type}(l:List α)(d:α):(List.range l.length).map (λ i=>l.getD i d)=l:=by
 apply fM;intro i;rw[ax];by_cases h:i<l.length
 ·rw[a_ h];simp[h]
 ·rw[bq (by simpa using h),bq (by lia)];rfl
theorem yj (hc:X.calm=true):kz X (.builtin "sorted") (λ xs H Q=>∃ S kk,xs=[V.ref S]/\MF X.w H S (kk.map λ(k:Int×Int)=>[k.1,k.2])/\kk.length<64 /\
  ∀ p ws (ss:List (Int×Int)),H p=none->Ij H ws (ss.map λ k=>[k.1,k.2])->ss.Pairwise (λ a b=>pLt a b=true)->ss.Perm kk->Q (.ref p) (upd H p (.lst ws))):=by
 intro pins s σ H xs us Q I r h;obtain⟨S,kk,rfl,hS,h64,q⟩:=h;obtain⟨u,rfl,ru⟩:=vals1 r;cases ru;obtain⟨oS,es,ep,t,e1,hx,hd,T,hp,hl,hz,nd,pr⟩:=hS;have hok:=I.hok S _ e1;have hS:s.heap.get? S=some oS:=hok.1;obtain⟨m,hm,_⟩:=id I.loc;have no:∀ b,(Att.m9 s.heap).get? b=none:=λ b=>gm (bg _);have hkl:kk.length=es.size:=by have:=pr.length;simpa using this
 have ndk:kk.Nodup:=by rw[bc]at nd ⊢;rw[cy]at nd;exact nd.imp λ h e=>h (by rw[e])
 obtain⟨k3,pk,pr3⟩:=C4 (vv X.w S ep es).symm (t5 _ pr);have hk3:k3.length=es.size:=by rw[<-pk.length_eq,hkl]
 refine Calls.call_function_entry kind_sorted plain_sorted entry_sorted (args_sorted1 _) ?_;unfold Builtin.«sorted»;refine aa (m:=checkCount "sorted" 1 1 _) (ao (aa (kdu_collect (A:=X.A.in1) (ME hx hd T hp hl) (I.ok.hd hc) hS (by rw[sizeLine_eq];lia) λ h1 tk acc hk hacc=>?_)));have hal:acc.toList.length=es.size:=by rw[cL];exact hacc.1
 have hav:∀ (j:Nat) (v:iG),acc.toList[j]?=some v->∃ hv,(seen X.w S ep es)[j]?=some (hv,v):=λ j v e=>hacc.2 j v (by rw[<-bU];exact e);generalize acc.toList=vs at hal hav;refine aa (wpAny_newList ?_ (by rw[sizeLine_eq];lia));have hL:X.env.locals<h1.objs.size:=by obtain⟨oL,_,_,ho,_⟩:=hm;exact aE (hk _ _ ho)
 have at_j:∀ j,j<es.size->∃ b,vs[j]?=some (.ref b)/\H b=some (.tup [.int (k3.getD j (0,0)).1,.int (k3.getD j (0,0)).2]):=λ j hj=>by
  obtain⟨hv,e2⟩:=hav j vs[j] (by simp[hal,hj]);have hj3:k3[j]?=some (k3.getD j (0,0)):=by rw[au];simp[hk3,hj]
  obtain⟨y,y1,b,y2,y3⟩:=vy pr3 j _ hj3;rw[bU,e2]at y1;cases y1;exact⟨b,by rw[<-y2];simp[hal,hj],y3⟩
 have keep1:∀ b o,s.heap.get? b=some o->(h1.push {cls:=.type "list",data:=.seq vs.toArray}).get? b=some o:=λ b o e=>ai _ (hk b o e);have F1:Fr (Att.m9 s.heap) X.env.locals (h1.push {cls:=.type "list",data:=.seq vs.toArray}) m:=⟨hm.at' λ o e=>keep1 _ o e,(λ b o e=>by rw[no]at e;cases e),bg _⟩;have N1:News (Att.m9 s.heap) X.env.locals (h1.push {cls:=.type "list",data:=.seq vs.toArray}) (rJ (Att.m9 s.heap) s.heap X.env.locals):=λ p hp=>let ⟨a,_,c⟩:=qv hp;⟨keep1 _ _ c,a,no _⟩;have hD:(h1.push {cls:=.type "list",data:=.seq vs.toArray}).get? h1.objs.size=some (listOf vs.toArray 0):=aS _ rfl;have hneD:∀ p∈rJ (Att.m9 s.heap) s.heap X.env.locals,p.1≠h1.objs.size:=λ p hp=>let ⟨_,_,c⟩:=qv hp;bw (aE (hk _ _ c));have fin:∀ (l:List Nat) h2 c tk2,l.Perm (List.range es.size)->(l.map λ i=>k3.getD i (0,0)).Pairwise (λ a b=>pLt b a=false)->Fr (Att.m9 s.heap) X.env.locals h2 m->News (Att.m9 s.heap) X.env.locals h2 ((h1.objs.size,listOf (List.toArray (l.map λ i=>vs.getD i Value.none)) c)::rJ (Att.m9 s.heap) s.heap X.env.locals) ->
   EP X pins σ Q (.ref h1.objs.size) {s with heap:=h2,toks:=tk2}:=λ l h2 c tk2 hlp hso F2 N2=>by
  have I2:Inv X pins σ H {s with heap:=h2,toks:=tk2}:=I.GC hm F2 λ p hp=>N2 p (av _ hp);have hn:H h1.objs.size=none:=by
   cases e:H h1.objs.size with
   | none=>rfl
   | some o =>obtain⟨o',ho'⟩:=J3 (I.hok _ _ e);exact absurd (aE (hk _ _ ho')) (bD _)
  have hlt:∀ i∈l,i<es.size:=λ i hi=>aw.mp (hlp.mem_iff.mp hi);let bo:Nat->Addr:=λ i=>match vs[i]? with | some (.ref b)=>b | _=>0
  have hbo:∀ i,i<es.size->vs.getD i Value.none=.ref (bo i)/\H (bo i)=some (.tup [.int (k3.getD i (0,0)).1,.int (k3.getD i (0,0)).2]):=λ i hi=>by
   obtain⟨b,b1,b2⟩:=at_j i hi;have:bo i=b:=by show(match vs[i]? with | some (.ref b)=>b | _=>0)=b;rw[b1]
   rw[this,au,b1];exact⟨rfl,b2⟩
  have new:kR X.prog X.w (upd H h1.objs.size (.lst (l.map λ i=>V.ref (bo i)))) h2 h1.objs.size (.lst (l.map λ i=>V.ref (bo i))) :=
   ⟨by rw[ag,hlp.length_eq,bJ,sizeLine_eq];lia,l.map λ i=>vs.getD i Value.none,c,qE l λ i hi=>(hbo i (hlt i hi)).1,(N2 _ ar).1⟩
  have I3:Inv X pins σ (upd H h1.objs.size (.lst (l.map λ i=>V.ref (bo i)))) {s with heap:=h2,toks:=tk2}:=I2.Gz hn (bf I.ok.above (fq hL)) (cX hL) (λ x c e z=>by
    obtain⟨v,o,ho,_⟩:=I.cell x c e;exact absurd (aE (hk _ _ ho)) (by rw[z];exact bD _)) (λ p hp z=>by
    exact absurd (aE (hk _ _ (I.pin p hp).1)) (by rw[z];exact bD _)) new
  have perm2:(l.map λ i=>k3.getD i (0,0)).Perm kk:=by have:=hlp.map λ i=>k3.getD i (0,0);rw[<-hk3,qF]at this;exact this.trans pk.symm
  have ndl:(l.map λ i=>k3.getD i (0,0)).Nodup:=perm2.nodup_iff.mpr ndk;refine⟨.ref h1.objs.size,_,I3,rfl,q _ _ (l.map λ i=>k3.getD i (0,0)) hn ?_ ?_ perm2⟩
  ·rw[aH];exact qE l λ i hi=>⟨bo i,rfl,(hbo i (hlt i hi)).2⟩
  ·rw[bc]at ndl
   refine(hso.and ndl).imp λ{a b} ⟨h1,h2⟩=>?_;cases e:pLt a b with
   | true=>rfl
   | false=>exact absurd (Tb.PO.total a b e h1) h2
 refine aa (dF ?_);by_cases h2:2<=vs.length
 ·refine E9 (X:=λ i=>k3.getD i (0,0)) F1 (λ p hp=>?_) hneD h2 (by lia) (λ h' F' N' i v hv=>?_) λ p h' c P So F2 N2=>ao ⟨_,rfl,?_⟩
  ·rcases aN.mp hp with rfl | hp
   ·exact⟨hD,cX hL,no _⟩
   ·exact N1 p hp
  ·have hi:i<es.size:=by
    have:=(ba.mp hv).1;lia
   obtain⟨b,b1,b2⟩:=at_j i hi;rw[hv]at b1;cases b1;refine⟨b,rfl,?_⟩;have I2:Inv X pins σ H {s with heap:=h',toks:=s.toks}:=I.GC hm F' N';exact GB I2.hok (k:=[_,_]) b2
  ·rw[hal]at P So
   refine fin p.toList h' c _ P.2 ?_ F2 N2;rw[cy,dw];intro i j hi hj hij;have hjs:j<es.size:=by have:=P.size;simp at hj;lia
   have:=So i j (by lia) hjs;unfold KeyOrd.kle Kp at this;have gi:p.getD i 0=p.toList[i]:=by simp[Array.getD,show i<p.size by simpa using hi]
   have gj:p.getD j 0=p.toList[j]:=by simp[Array.getD,show j<p.size by simpa using hj]
   rw[gi,gj]at this;exact this
 ·refine E_ hD (by lia) λ h' c kp hc'=>ao ⟨_,rfl,?_⟩
  refine fin (List.range es.size) h' c _ (.refl _) ?_ ⟨F1.ns.at' λ o e=>kp _ o (bw hL) e,(λ b o e=>by rw[no]at e;cases e),bg _⟩ λ p hp=>?_
  ·have:((List.range es.size).map λ i=>k3.getD i (0,0)).length<2:=by simp;lia
   match (List.range es.size).map (λ i=>k3.getD i (0,0)),this with
   | [],_=>exact .nil
   | [a],_=>exact List.pairwise_singleton _ _
  ·rcases aN.mp hp with rfl | hp
   ·refine⟨?_,cX hL,no _⟩;rw[<-hal,qF];exact hc'
   ·exact⟨kp _ _ (hneD p hp) (N1 p hp).1,(N1 p hp).2⟩
end
end L2
namespace L2
open PySem PySem.Spec PyProof.Rows
inductive Dt where
 | non | bl (b:Bool) | int (i:Int) | str (x:Str) | ty (n:String) | opq (v:V) | dct (kvs:List (Int×Int)) | tup (ds:List Dt) | lst (ds:List Dt)
def kvD (kvs:List (Int×Int)):List (Key×V):=kvs.map λ p=>(Sum.inl p.1,V.int p.2)
mutual
inductive Is (K:iF) (H:Hp):V->Dt->Prop
 | non:Is K H .non .non
 | bl (b:Bool):Is K H (.bl b) (.bl b)
 | int (i:Int):Is K H (.int i) (.int i)
 | str (x:Str):Is K H (.str x) (.str x)
 | ty (n:String):Is K H (.ty n) (.ty n)
 | opq (v:V):Is K H v (.opq v)
 | dct {a:Addr} {kvs:List (Int×Int)}:Rd H a (.dK (kvD kvs))->Is K H (.ref a) (.dct kvs)
 | tup {a:Addr} {xs:List V} {ds:List Dt}:SqT K H a xs->Iss K H xs ds->Is K H (.ref a) (.tup ds)
 | lst {a:Addr} {xs:List V} {ds:List Dt}:H a=some (.lst xs)->Iss K H xs ds->Is K H (.ref a) (.lst ds)
inductive Iss (K:iF) (H:Hp):List V->List Dt->Prop
 | nil:Iss K H [] []
 | cons {x:V} {xs:List V} {d:Dt} {ds:List Dt}:Is K H x d->Iss K H xs ds->Iss K H (x::xs) (d::ds)
end
section
variable {K:iF}{H H':Hp}
theorem Is.mono (ht:∀ a xs,SqT K H a xs->SqT K H' a xs)(hl:∀ a xs,H a=some (.lst xs)->H' a=some (.lst xs))(hd:∀ a u,Rd H a u->Rd H' a u){v:V}{d:Dt}(h:Is K H v d):Is K H' v d :=
 Is.rec (motive_1:=λ v d _=>Is K H' v d) (motive_2:=λ v d _=>Iss K H' v d) .non .bl .int .str .ty .opq (λ h=>.dct (hd _ _ h)) (λ h _ i=>.tup (ht _ _ h) i) (λ h _ i=>.lst (hl _ _ h) i) .nil (λ _ _ i j=>.cons i j) h
theorem Iss.mono (ht:∀ a xs,SqT K H a xs->SqT K H' a xs)(hl:∀ a xs,H a=some (.lst xs)->H' a=some (.lst xs))(hd:∀ a u,Rd H a u->Rd H' a u){v:List V}{d:List Dt}(h:Iss K H v d):Iss K H' v d :=
 Iss.rec (motive_1:=λ v d _=>Is K H' v d) (motive_2:=λ v d _=>Iss K H' v d) .non .bl .int .str .ty .opq (λ h=>.dct (hd _ _ h)) (λ h _ i=>.tup (ht _ _ h) i) (λ h _ i=>.lst (hl _ _ h) i) .nil (λ _ _ i j=>.cons i j) h
theorem iZ.t_ {a:Addr}{xs:List V}(e:iZ H H')(h:SqT K H a xs):SqT K H' a xs:=by
 rcases h with (h | ⟨o,h⟩) | h
 ·exact .inl (.inl (e _ _ h))
 ·exact .inl (.inr ⟨o,e _ _ h⟩)
 ·exact .inr h
theorem iZ.rd {a:Addr}{u:HO}(e:iZ H H')(h:Rd H a u):Rd H' a u:=h.elim (λ h=>.inl (e _ _ h)) λ⟨o,h⟩=>.inr ⟨o,e _ _ h⟩
theorem Is.ext (e:iZ H H'){v:V}{d:Dt}(h:Is K H v d):Is K H' v d:=h.mono (λ _ _=>e.t_) (λ _ _ h=>e _ _ h) (λ _ _=>e.rd)
theorem Iss.ext (e:iZ H H'){v:List V}{d:List Dt}(h:Iss K H v d):Iss K H' v d:=h.mono (λ _ _=>e.t_) (λ _ _ h=>e _ _ h) (λ _ _=>e.rd)
theorem iZ.upd {p:Addr}{o:HO}(h:H p=none):iZ H (upd H p o):=λ b u e=>by rw[ja (jn e h)];exact e
structure jY (H H':Hp):Prop where
 tK:∀ b xs,H b=some (.tup xs)->H' b=some (.tup xs)
 tL:∀ b o u,H b=some (.frz o u)->H' b=some (.frz o u)
theorem jY.refl:jY H H:=⟨λ _ _ h=>h,λ _ _ _ h=>h⟩
theorem jY.trans {H1 H2:Hp}(a:jY H H1)(b:jY H1 H2):jY H H2:=⟨λ c xs h=>b.tK c xs (a.tK c xs h),λ c o u h=>b.tL c o u (a.tL c o u h)⟩
theorem iZ.text (e:iZ H H'):jY H H':=⟨λ b xs h=>e b _ h,λ b o u h=>e b _ h⟩
theorem jY.upd {p:Addr}{o:HO}(mu:Mut (H p)):jY H (upd H p o):=⟨λ b xs e=>by
  rw[ja (λ z=>by subst z;rw[e]at mu;exact mu)];exact e,λ b o u e=>by
  rw[ja (λ z=>by subst z;rw[e]at mu;exact mu)];exact e⟩
theorem jY.t_ {a:Addr}{xs:List V}(e:jY H H')(h:SqT K H a xs):SqT K H' a xs:=by
 rcases h with (h | ⟨o,h⟩) | h
 ·exact .inl (.inl (e.tK _ _ h))
 ·exact .inl (.inr ⟨o,e.tL _ _ _ h⟩)
 ·exact .inr h
mutual
inductive Imm:Dt->Prop
 | non:Imm .non
 | bl (b:Bool):Imm (.bl b)
 | int (i:Int):Imm (.int i)
 | str (x:Str):Imm (.str x)
 | ty (n:String):Imm (.ty n)
 | opq (v:V):Imm (.opq v)
 | tup {ds:List Dt}:oP ds->Imm (.tup ds)
inductive oP:List Dt->Prop
 | nil:oP []
 | cons {d:Dt} {ds:List Dt}:Imm d->oP ds->oP (d::ds)
end
theorem Imm.jy {ds:List Dt}(h:Imm (.tup ds)):oP ds:=by cases h;assumption
theorem Imm.lst_inv {ds:List Dt}(h:Imm (.lst ds)):False:=by cases h
theorem Imm.rN {ds:List (Int×Int)}(h:Imm (.dct ds)):False:=by cases h
theorem oP.inv {d:Dt}{ds:List Dt}(h:oP (d::ds)):Imm d/\oP ds:=by cases h;exact⟨by assumption,by assumption⟩
theorem Is.text (e:jY H H'){v:V}{d:Dt}(h:Is K H v d):Imm d->Is K H' v d :=
 Is.rec (motive_1:=λ v d _=>Imm d->Is K H' v d) (motive_2:=λ v d _=>oP d->Iss K H' v d) (λ _=>.non) (λ b _=>.bl b) (λ b _=>.int b) (λ b _=>.str b) (λ b _=>.ty b) (λ b _=>.opq b) (λ _ m=>m.rN.elim) (λ h _ i m=>.tup (e.t_ h) (i m.jy)) (λ _ _ _ m=>m.lst_inv.elim) (λ _=>.nil) (λ _ _ i j m=>.cons (i m.inv.1) (j m.inv.2)) h
theorem Iss.text (e:jY H H'){v:List V}{d:List Dt}(h:Iss K H v d):oP d->Iss K H' v d :=
 Iss.rec (motive_1:=λ v d _=>Imm d->Is K H' v d) (motive_2:=λ v d _=>oP d->Iss K H' v d) (λ _=>.non) (λ b _=>.bl b) (λ b _=>.int b) (λ b _=>.str b) (λ b _=>.ty b) (λ b _=>.opq b) (λ _ m=>m.rN.elim) (λ h _ i m=>.tup (e.t_ h) (i m.jy)) (λ _ _ _ m=>m.lst_inv.elim) (λ _=>.nil) (λ _ _ i j m=>.cons (i m.inv.1) (j m.inv.2)) h
theorem oP.of {ds:List Dt}(h:∀ d∈ds,Imm d):oP ds:=by
 induction ds with
 | nil=>exact .nil
 | cons d r ih=>exact .cons (h d ar) (ih λ x hx=>h x (av _ hx))
theorem Iss.length {vs:List V}{ds:List Dt}(h:Iss K H vs ds):vs.length=ds.length:=by
 induction ds generalizing vs with
 | nil=>cases h;rfl
 | cons d r ih=>cases h with | cons h1 h2=>simp[ih h2]
theorem Iss.get {vs:List V}{ds:List Dt}(h:Iss K H vs ds){i:Nat}{d:Dt}(e:ds[i]?=some d):∃ v,vs[i]?=some v/\Is K H v d:=by
 induction ds generalizing vs i with
 | nil=>simp at e
 | cons c r ih =>
  cases h with
  | cons h1 h2 =>
   cases i with
   | zero=>simp at e;subst e;exact⟨_,rfl,h1⟩
   | succ i=>obtain⟨v,a,b⟩:=ih h2 (i:=i) (by simpa using e);exact⟨v,by simpa using a,b⟩
theorem Iss.append {vs ws:List V}{ds es:List Dt}(h:Iss K H vs ds)(h':Iss K H ws es):Iss K H (vs++ws) (ds++es):=by
 induction ds generalizing vs with
 | nil=>cases h;exact h'
 | cons d r ih=>cases h with | cons h1 h2=>exact .cons h1 (ih h2)
theorem Iss.snoc {vs:List V}{ds:List Dt}{v:V}{d:Dt}(h:Iss K H vs ds)(h':Is K H v d):Iss K H (vs++[v]) (ds++[d]):=h.append (.cons h' .nil)
theorem Iss.ints {vs:List V}:∀ {ns:List Int},Iss K H vs (ns.map .int)->vs=ns.map V.int:=by
 intro ns h;induction ns generalizing vs with
 | nil=>cases h;rfl
 | cons d r ih=>cases h with | cons h1 h2=>cases h1;rw[ih h2];rfl
theorem Iss.rO (ns:List Int):Iss K H (ns.map V.int) (ns.map .int):=by
 induction ns with
 | nil=>exact .nil
 | cons d r ih=>exact .cons (.int d) ih
end
abbrev DE:=List (iA Dt)
structure Sat (K:iF)(H:Hp)(σ:St)(δ:DE):Prop where
 len:σ.length=δ.length
 at_:∀ (i:Nat) (d:Dt),δ[i]?=some (some d)->∃ v,σ[i]?=some (some v)/\Is K H v d
section
variable {K:iF}{H H':Hp}{σ:St}{δ:DE}
theorem Sat.ext (e:iZ H H')(h:Sat K H σ δ):Sat K H' σ δ:=⟨h.len,λ i d q=>let ⟨v,a,b⟩:=h.at_ i d q;⟨v,a,b.ext e⟩⟩
theorem Sat.set {i:Nat}{v:V}{d:Dt}(h:Sat K H σ δ)(q:Is K H v d):Sat K H (σ.set i (some v)) (δ.set i (some d)):=by
 refine⟨by simp[h.len],λ j e hj=>?_⟩;by_cases hij:i=j
 ·subst hij
  by_cases hi:i<δ.length
  ·rw[cW hi]at hj;cases hj;exact⟨v,by rw[cW (by rw[h.len];exact hi)],q⟩
  ·rw[bq (by simp;lia)]at hj;cases hj
 ·rw[bM hij]at hj;rw[bM hij];exact h.at_ j e hj
theorem Sat.comp {own:List Str}{ix:List Nat}(h:Sat K H σ δ):Sat K H (kQ own ix σ) (own.map (λ _=>none)++ix.map λ i=>(δ[i]?).getD none):=by
 refine⟨by simp[kQ],λ j e hj=>?_⟩;have hl:own.length<=j:=by
  refine fX λ hlt=>?_;rw[bW (by simpa using hlt),ax]at hj;cases q:own[j]? with
  | none=>rw[q]at hj;cases hj
  | some a=>rw[q]at hj;cases hj
 unfold kQ;rw[bS (by simpa using hl),ax,ag]at hj ⊢;cases q:ix[j-own.length]? with
 | none=>rw[q]at hj;cases hj
 | some i =>
  rw[q]at hj;have hj:(δ[i]?).getD none=some e:=aF hj;have:δ[i]?=some (some e):=by
   cases r:δ[i]? with
   | none=>rw[r]at hj;cases hj
   | some w=>rw[r]at hj;exact cK some hj
  obtain⟨v,a,b⟩:=h.at_ i e this;exact⟨v,by rw[bP,a];rfl,b⟩
theorem Iss.start {N:List Str}{vs:List V}{ds:List Dt}(h:Iss K H vs ds):Sat K H (start N vs) (ds.map some++List.replicate (N.length-ds.length) none):=by
 refine⟨by simp[L2.start,h.length],λ j e hj=>?_⟩;unfold L2.start;by_cases hlt:j<ds.length
 ·rw[bW (by simpa using hlt),ax]at hj
  obtain⟨v,a,b⟩:=h.get (i:=j) (d:=e) (by
   cases q:ds[j]? with
   | none=>rw[q]at hj;cases hj
   | some w=>rw[q]at hj;cases hj;rfl)
  exact⟨v,by rw[bW (by rw[ag,h.length];exact hlt),ax,a];rfl,b⟩
 ·rw[bS (by simpa using fX hlt),fF]at hj;split at hj<;>cases hj
end
def tD (K:iF)(g:DE->iA Dt):TE:=λ σ H Q=>∃ δ d,Sat K H σ δ/\g δ=some d/\∀ v H',iZ H H'->Is K H' v d->Q v H'
def tDT (K:iF)(g:DE->iA Bool):TT:=λ σ H Q=>∃ δ b,Sat K H σ δ/\g δ=some b/\∀ H',iZ H H'->Q b H'
def tDs (K:iF)(g:DE->iA (List Dt)):TA:=λ σ H Q=>∃ δ ds,Sat K H σ δ/\g δ=some ds/\∀ vs H',iZ H H'->Iss K H' vs ds->Q vs H'
def rD (K:iF)(f:Dt->Dt->iA Dt):R2:=λ x y H Q=>∃ dx dy d,Is K H x dx/\Is K H y dy/\f dx dy=some d/\∀ v H',iZ H H'->Is K H' v d->Q v H'
def cD (K:iF)(f:List Dt->iA Dt):List V->Hp->VK->Prop:=λ xs H Q=>∃ ds d,Iss K H xs ds/\f ds=some d/\∀ v H',iZ H H'->Is K H' v d->Q v H'
def spD (K:iF)(n:Nat)(f:List Dt->iA Dt):Sp:=λ xs H Q _=>∃ ds d,ds.length=n/\Iss K H xs ds/\f ds=some d/\∀ v H',iZ H H'->Is K H' v d->Q v H'
def iN (i:Nat):DE->iA Dt:=λ δ=>(δ[i]?).join
def gC (d:Dt):DE->iA Dt:=λ _=>some d
def iY (f:Dt->Dt->iA Dt)(a b:DE->iA Dt):DE->iA Dt:=λ δ=>(a δ).bind λ x=>(b δ).bind λ y=>f x y
def iQ:DE->iA (List Dt):=λ _=>some []
section
variable {X:Cx}{e a b c:Expr}{es:List Expr}{pos:Pos}
theorem PE.of {t t':TE}(h:PE X e t)(w:∀ σ H Q,t' σ H Q->t σ H Q):PE X e t':=λ pins s σ H Q I q=>h pins s σ H Q I (w σ H Q q)
theorem PT.of {t t':TT}(h:PT X e t)(w:∀ σ H Q,t' σ H Q->t σ H Q):PT X e t':=λ pins s σ H Q I q=>h pins s σ H Q I (w σ H Q q)
theorem PW.of {t t':TT}(h:PW X e t)(w:∀ σ H Q,t' σ H Q->t σ H Q):PW X e t':=λ wh pins s σ H Q I q=>h wh pins s σ H Q I (w σ H Q q)
theorem PA.of {t t':TA}(h:PA X es t)(w:∀ σ H Q,t' σ H Q->t σ H Q):PA X es t':=λ p pins s σ H Q I q=>h p pins s σ H Q I (w σ H Q q)
theorem PS.of {st:Stmt}{t t':TS}(h:PS X st t)(w:∀ D σ H,t' D σ H->t D σ H):PS X st t':=λ pins s σ H D I q=>h pins s σ H D I (w D σ H q)
theorem PSs.of {st:List Stmt}{t t':TS}(h:PSs X st t)(w:∀ D σ H,t' D σ H->t D σ H):PSs X st t':=λ pins s σ H D I q=>h pins s σ H D I (w D σ H q)
abbrev PD (X:Cx)(e:Expr)(g:DE->iA Dt):Prop:=PE X e (tD X.K g)
abbrev PDT (X:Cx)(e:Expr)(g:DE->iA Bool):Prop:=PT X e (tDT X.K g)
abbrev PDW (X:Cx)(e:Expr)(g:DE->iA Bool):Prop:=PW X e (tDT X.K g)
abbrev PDs (X:Cx)(es:List Expr)(g:DE->iA (List Dt)):Prop:=PA X es (tDs X.K g)
theorem J4 {i:Nat}{δ:DE}{d:Dt}(h:iN i δ=some d):δ[i]?=some (some d):=by
 unfold iN at h;cases q:δ[i]? with
 | none=>rw[q]at h;cases h
 | some w=>rw[q]at h;exact cK some h
theorem dv (i:Nat){x:Str}(hN:X.N[i]?=some x:=by rfl)(hv:Vis X.env.scope x:=by trivial)(hd:(x==("__debug__":Str))=false:=by decide)
  (hcd:(x==("__classdict__":Str))=false:=by decide):PD X (.Name x pos) (iN i) :=
 (Jk hN hv hd hcd).of λ σ H Q hz1=>by obtain⟨δ,d,S,e,q⟩:=hz1;obtain⟨v,h1,h2⟩:=S.at_ i d (J4 e);exact⟨v,h1,q v H (iZ.refl H) h2⟩
theorem ji {i:Int}{j}:PD X (.Constant (.int i) j pos) (gC (.int i)):=jd.of λ σ H Q ⟨δ,d,S,e,q⟩=>by cases e;exact q _ H (iZ.refl H) (.int i)
theorem qG {i:Bool}{j}:PD X (.Constant (.bool i) j pos) (gC (.bl i)):=Jl.of λ σ H Q ⟨δ,d,S,e,q⟩=>by cases e;exact q _ H (iZ.refl H) (.bl i)
theorem R9 {j}:PD X (.Constant .none j pos) (gC .non):=Jm.of λ σ H Q ⟨δ,d,S,e,q⟩=>by cases e;exact q _ H (iZ.refl H) .non
theorem P5 {x:Str}{u:iG}{v:V}{d:Dt}(hm:X.mg x=some u)(r:RelV v u)(hI:∀ H,Is X.K H v d)(hg:Gl X x:=by rfl)(hd:(x==("__debug__":Str))=false:=by decide):PD X (.Name x pos) (gC d) :=
 (Mf hg hm r hd).of λ σ H Q ⟨δ,d',S,e,q⟩=>by cases e;exact q _ H (iZ.refl H) (hI H)
theorem C5 {x:Str}{T:String}(hm:X.mg x=none)(hv:bootBuiltins x=some (.type T))(hg:Gl X x:=by rfl)(hn:x≠"__name__":=by decide)(hd:(x==("__debug__":Str))=false:=by decide):PD X (.Name x pos) (gC (.ty T)) :=
 (Mg (v:=.ty T) hg hm hv rfl hn hd).of λ σ H Q ⟨δ,d',S,e,q⟩=>by cases e;exact q _ H (iZ.refl H) (.ty T)
theorem yk {f:Dt->Dt->iA Dt}{ga gb:DE->iA Dt}{δ:DE}{d:Dt}(h:iY f ga gb δ=some d):∃ x y,ga δ=some x/\gb δ=some y/\f x y=some d:=by
 unfold iY at h;cases p:ga δ with
 | none=>rw[p]at h;cases h
 | some x =>
  rw[p]at h;cases q:gb δ with
  | none=>rw[ae,q]at h;cases h
  | some y=>rw[ae,q,ae]at h;exact⟨x,y,rfl,rfl,h⟩
theorem Bm {K:iF}{f:Dt->Dt->iA Dt}{ga gb:DE->iA Dt}(σ:St)(H:Hp)(Q:VK)(h:tD K (iY f ga gb) σ H Q):tOp (rD K f) (tD K ga) (tD K gb) σ H Q:=by obtain⟨δ,d,S,e,q⟩:=h;obtain⟨x,y,e1,e2,e3⟩:=yk e;refine⟨δ,x,S,e1,λ v H1 s1 i1=>⟨δ,y,S.ext s1,e2,λ w H2 s2 i2=>⟨x,y,d,i1.ext s2,i2,e3,λ u H3 s3 i3=>q u H3 ((s1.trans s2).trans s3) i3⟩⟩⟩
theorem kC {op:Operator}{f:Dt->Dt->iA Dt}{ga gb:DE->iA Dt}(ho:OpR X (binaryOp op) (rD X.K f))(ha:PD X a ga)(hb:PD X b gb):PD X (.BinOp a op b pos) (iY f ga gb):=(jP ho ha hb).of Bm
theorem qH {op:CmpOp}{f:Dt->Dt->iA Dt}{ga gb:DE->iA Dt}(ho:OpR X (compareOp op) (rD X.K f))(ha:PD X a ga)(hb:PD X b gb)(hm:behindInMarks op b=false:=by first | exact xM _ | with_unfolding_all rfl):PD X (.Compare a [op] [b] pos) (iY f ga gb):=(Ml ho ha hb hm).of Bm
def asB:Dt->iA Bool
 | .bl b=>some b
 | _=>none
theorem Bn {d:Dt}{b:Bool}(h:asB d=some b):d=.bl b:=by cases d<;>simp[asB]at h;rw[h]
def gB (g:DE->iA Dt):DE->iA Bool:=λ δ=>(g δ).bind asB
theorem Bo {g:DE->iA Dt}{δ:DE}{b:Bool}(h:gB g δ=some b):g δ=some (.bl b):=by
 unfold gB at h;cases p:g δ with
 | none=>rw[p]at h;cases h
 | some x=>rw[p]at h;rw[Bn h]
theorem Is.lJ {K:iF}{H:Hp}{v:V}{b:Bool}(h:Is K H v (.bl b)):v=.bl b:=by cases h;rfl
theorem Is.int_inv {K:iF}{H:Hp}{v:V}{b:Int}(h:Is K H v (.int b)):v=.int b:=by cases h;rfl
theorem Is.str_inv {K:iF}{H:Hp}{v:V}{b:Str}(h:Is K H v (.str b)):v=.str b:=by cases h;rfl
theorem Is.xm {K:iF}{H:Hp}{v:V}{b:V}(h:Is K H v (.opq b)):v=b:=by cases h;rfl
theorem Is.P6 {K:iF}{H:Hp}{v:V}{b:String}(h:Is K H v (.ty b)):v=.ty b:=by cases h;rfl
theorem Is.xn {K:iF}{H:Hp}{v:V}(h:Is K H v .non):v=.non:=by cases h;rfl
theorem Is.jy {K:iF}{H:Hp}{v:V}{ds:List Dt}(h:Is K H v (.tup ds)):∃ a xs,v=.ref a/\SqT K H a xs/\Iss K H xs ds:=by cases h;exact⟨_,_,rfl,by assumption,by assumption⟩
theorem Is.rN {K:iF}{H:Hp}{v:V}{ds:List (Int×Int)}(h:Is K H v (.dct ds)):∃ a,v=.ref a/\Rd H a (.dK (kvD ds)):=by cases h;exact⟨_,rfl,by assumption⟩
theorem Is.lst_inv {K:iF}{H:Hp}{v:V}{ds:List Dt}(h:Is K H v (.lst ds)):∃ a xs,v=.ref a/\H a=some (.lst xs)/\Iss K H xs ds:=by cases h;exact⟨_,_,rfl,by assumption,by assumption⟩
theorem OB {K:iF}{g:DE->iA Dt}(σ:St)(H:Hp)(Q:Bool->Hp->Prop)(h:tDT K (gB g) σ H Q):tD K g σ H λ x H'=>∃ k,x=.bl k/\Q k H':=by obtain⟨δ,b,S,e,q⟩:=h;exact⟨δ,_,S,Bo e,λ v H1 s1 i1=>⟨b,i1.lJ,q H1 s1⟩⟩
theorem jK {op:CmpOp}{f:Dt->Dt->iA Dt}{ga gb:DE->iA Dt}(ho:OpR X (compareOp op) (rD X.K f))(ha:PD X a ga)(hb:PD X b gb)(hm:behindInMarks op b=false:=by first | exact xM _ | with_unfolding_all rfl):PDT X (.Compare a [op] [b] pos) (gB (iY f ga gb)) :=
 (xl ho ha hb hm).of λ σ H Q h=>Bm σ H _ (OB σ H Q h)
def vz (f f':Dt->Dt->iA Dt)(ga gb gc:DE->iA Dt):DE->iA Dt:=λ δ=>(ga δ).bind λ x=>(gb δ).bind λ y=>(f x y).bind λ z=>(asB z).bind λ k=>if k=true then (gc δ).bind λ w=>f' y w else some (.bl false)
theorem iP {α β:Type}{o:iA α}{f:α->iA β}{b:β}(h:o.bind f=some b):∃ a,o=some a/\f a=some b:=by
 cases o with
 | none=>cases h
 | some a=>exact⟨a,rfl,h⟩
theorem C6 {K:iF}{f f':Dt->Dt->iA Dt}{ga gb gc:DE->iA Dt}(σ:St)(H:Hp)(Q:VK)(h:tD K (vz f f' ga gb gc) σ H Q):EJ (rD K f) (rD K f') (tD K ga) (tD K gb) (tD K gc) σ H Q:=by
 obtain⟨δ,d,S,e,q⟩:=h;obtain⟨x,e1,e⟩:=iP e;obtain⟨y,e2,e⟩:=iP e;obtain⟨z,e3,e⟩:=iP e;obtain⟨k,e4,e⟩:=iP e;have e4:=Bn e4;subst e4;refine⟨δ,x,S,e1,λ v H1 s1 i1=>⟨δ,y,S.ext s1,e2,λ w H2 s2 i2=>⟨x,y,_,i1.ext s2,i2,e3,λ u H3 s3 i3=>⟨k,i3.lJ,?_⟩⟩⟩⟩;cases k with
 | true =>obtain⟨w',e5,e6⟩:=iP (show(gc δ).bind _=_ from e);rw[af rfl];exact⟨δ,w',S.ext ((s1.trans s2).trans s3),e5,λ u' H4 s4 i4=>⟨y,w',d,(i2.ext s3).ext s4,i4,e6,λ u5 H5 s5 i5=>q u5 H5 ((((s1.trans s2).trans s3).trans s4).trans s5) i5⟩⟩
 | false =>rw[ah aI];cases (show some (Dt.bl false)=some d from e);exact q _ H3 ((s1.trans s2).trans s3) (.bl false)
theorem MG {op op':CmpOp}{f f':Dt->Dt->iA Dt}{ga gb gc:DE->iA Dt}(ho:OpR X (compareOp op) (rD X.K f))(ho':OpR X (compareOp op') (rD X.K f'))(ha:PD X a ga)(hb:PD X b gb)(hc:PD X c gc)
  (hm:lastMarks [op,op'] [b,c]=false:=by with_unfolding_all rfl):PD X (.Compare a [op,op'] [b,c] pos) (vz f f' ga gb gc):=(Ju ho ho' ha hb hc hm).of C6
theorem J5 {op op':CmpOp}{f f':Dt->Dt->iA Dt}{ga gb gc:DE->iA Dt}(ho:OpR X (compareOp op) (rD X.K f))(ho':OpR X (compareOp op') (rD X.K f'))(ha:PD X a ga)(hb:PD X b gb)(hc:PD X c gc)
  (hm:lastMarks [op,op'] [b,c]=false:=by with_unfolding_all rfl):PDT X (.Compare a [op,op'] [b,c] pos) (gB (vz f f' ga gb gc)):=(Jv ho ho' ha hb hc hm).of λ σ H Q h=>C6 σ H _ (OB σ H Q h)
def w6 (ga gb:DE->iA Dt):DE->iA Dt:=λ δ=>(gB ga δ).bind λ k=>if k=true then gb δ else some (.bl false)
def gOr (ga gb:DE->iA Dt):DE->iA Dt:=λ δ=>(gB ga δ).bind λ k=>if k=true then some (.bl true) else gb δ
def P7 (ga:DE->iA Dt):DE->iA Dt:=λ δ=>(gB ga δ).map λ k=>.bl (!k)
theorem wa {op}{g:DE->iA Dt}(h:PD X a g):PD X (.BoolOp op [a] pos) g:=Pg h
theorem ua {rest:List Expr}{ga gb:DE->iA Dt}(ha:PD X a ga)(hb:PD X (.BoolOp .And (b::rest) pos) gb):PD X (.BoolOp .And (a::b::rest) pos) (w6 ga gb) :=
 (Ph ha hb).of λ σ H Q hz2=>by
  obtain⟨δ,d,S,e,q⟩:=hz2;obtain⟨k,e1,e⟩:=iP e;refine⟨δ,_,S,Bo e1,λ v H1 s1 i1=>⟨k,i1.lJ,?_⟩⟩;cases k with
  | true=>rw[af rfl]at e ⊢;exact⟨δ,d,S.ext s1,e,λ u H2 s2 i2=>q u H2 (s1.trans s2) i2⟩
  | false=>rw[ah aI]at e ⊢;cases e;exact q _ H1 s1 (.bl false)
theorem US {rest:List Expr}{ga gb:DE->iA Dt}(ha:PD X a ga)(hb:PD X (.BoolOp .Or (b::rest) pos) gb):PD X (.BoolOp .Or (a::b::rest) pos) (gOr ga gb) :=
 (RN ha hb).of λ σ H Q hz3=>by
  obtain⟨δ,d,S,e,q⟩:=hz3;obtain⟨k,e1,e⟩:=iP e;refine⟨δ,_,S,Bo e1,λ v H1 s1 i1=>⟨k,i1.lJ,?_⟩⟩;cases k with
  | false=>rw[ah aI]at e ⊢;exact⟨δ,d,S.ext s1,e,λ u H2 s2 i2=>q u H2 (s1.trans s2) i2⟩
  | true=>rw[af rfl]at e ⊢;cases e;exact q _ H1 s1 (.bl true)
theorem jr {α β:Type}{o:iA α}{f:α->β}{b:β}(h:o.map f=some b):∃ a,o=some a/\f a=b:=by
 cases o with
 | none=>cases h
 | some a=>exact⟨a,rfl,aF h⟩
theorem R_ {ga:DE->iA Dt}(ha:PD X a ga):PD X (.UnaryOp .Not a pos) (P7 ga) :=
 (Pj ha).of λ σ H Q hz4=>by obtain⟨δ,d,S,e,q⟩:=hz4;obtain⟨k,e1,e⟩:=jr e;subst e;exact⟨δ,_,S,Bo e1,λ v H1 s1 i1=>⟨k,i1.lJ,q _ H1 s1 (.bl _)⟩⟩
def Sa (ga gb:DE->iA Bool):DE->iA Bool:=λ δ=>(ga δ).bind λ k=>if k=true then gb δ else some false
def qp (ga gb:DE->iA Bool):DE->iA Bool:=λ δ=>(ga δ).bind λ k=>if k=true then some true else gb δ
def kX (ga:DE->iA Bool):DE->iA Bool:=λ δ=>(ga δ).map (!·)
theorem kH {ga:DE->iA Bool}(ha:PDT X a ga):PDT X (.UnaryOp .Not a pos) (kX ga) :=
 (Jo ha).of λ σ H Q hz5=>by obtain⟨δ,d,S,e,q⟩:=hz5;obtain⟨k,e1,e⟩:=jr e;subst e;exact⟨δ,_,S,e1,λ H1 s1=>q H1 s1⟩
theorem nc {ga:DE->iA Bool}(ha:PDT X a ga):PDW X (.BoolOp .Or [a] pos) ga:=Pf ha
theorem oy {rest:List Expr}{ga gb:DE->iA Bool}(ha:PDT X a ga)(hb:PDW X (.BoolOp .Or (b::rest) pos) gb):PDW X (.BoolOp .Or (a::b::rest) pos) (qp ga gb) :=
 (RK ha hb).of λ σ H Q hz7=>by
  obtain⟨δ,d,S,e,q⟩:=hz7;obtain⟨k,e1,e⟩:=iP e;refine⟨δ,_,S,e1,λ H1 s1=>?_⟩;cases k with
  | false=>rw[ah aI]at e ⊢;exact⟨δ,d,S.ext s1,e,λ H2 s2=>q H2 (s1.trans s2)⟩
  | true=>rw[af rfl]at e ⊢;cases e;exact q H1 s1
theorem w9 {ga:DE->iA Bool}(h:PDW X a ga):PDT X a ga:=h.pt
def gIf (gc:DE->iA Bool)(ga gb:DE->iA Dt):DE->iA Dt:=λ δ=>(gc δ).bind λ k=>if k=true then ga δ else gb δ
theorem J6 {gc:DE->iA Bool}{ga gb:DE->iA Dt}(hc:PDT X c gc)(ha:PD X a ga)(hb:PD X b gb):PD X (.IfExp c a b pos) (gIf gc ga gb) :=
 (Jp hc ha hb).of λ σ H Q hz8=>by
  obtain⟨δ,d,S,e,q⟩:=hz8;obtain⟨k,e1,e⟩:=iP e;refine⟨δ,_,S,e1,λ H1 s1=>?_⟩;cases k with
  | true=>rw[af rfl]at e ⊢;exact⟨δ,d,S.ext s1,e,λ u H2 s2 i2=>q u H2 (s1.trans s2) i2⟩
  | false=>rw[ah aI]at e ⊢;exact⟨δ,d,S.ext s1,e,λ u H2 s2 i2=>q u H2 (s1.trans s2) i2⟩
def Fb:Dt->iA Bool
 | .non=>some false
 | .bl b=>some b
 | .int i=>some (i != 0)
 | .str x=>if x.length<=1000 then some ((x.length:Int) != 0) else none
 | .ty _=>none
 | .opq _=>none
 | .dct _=>none
 | .tup ds=>some (!ds.isEmpty)
 | .lst ds=>some (!ds.isEmpty)
theorem uc {n:Nat}(h:n<=1000):n<=sizeLine:=by rw[sizeLine_eq];lia
theorem Iss.isEmpty {K:iF}{H:Hp}{vs:List V}{ds:List Dt}(h:Iss K H vs ds):vs.isEmpty=ds.isEmpty:=by cases h<;>rfl
set_option tactic.hygienic true in
theorem MH {K:iF}{H:Hp}{v:V}{d:Dt}{k:Bool}(h:Is K H v d)(e:Fb d=some k):Jw K v H k:=by
 cases h with
 | non=>cases e;rfl
 | bl b=>cases e;rfl
 | int b=>cases e;rfl
 | ty n=>cases e
 | opq n=>cases e
 | dct h=>cases e
 | str x =>
  have e:(if x.length<=1000 then some ((x.length:Int) != 0) else none)=some k:=e;split at e
  ·rename_i h;cases e;exact⟨uc h,rfl⟩
  ·cases e
 | tup h1 h2=>cases e;exact .inr (.inl ⟨_,h1,by rw[h2.isEmpty]⟩)
 | lst h1 h2=>cases e;exact .inl ⟨_,SqL.of h1,by rw[h2.isEmpty]⟩
def gTr (g:DE->iA Dt):DE->iA Bool:=λ δ=>(g δ).bind Fb
theorem kI {g:DE->iA Dt}(h:PD X e g)(he:∀ whole,isTrue e X.env whole=(do let v<-whole;standAt e.pos;holding [v] (truthy v)):=by intro _;rfl):PDT X e (gTr g) :=
 (xO h he).of λ σ H Q hz9=>by obtain⟨δ,d,S,e,q⟩:=hz9;obtain⟨x,e1,e2⟩:=iP e;exact⟨δ,x,S,e1,λ v H1 s1 i1=>⟨d,MH i1 e2,q H1 s1⟩⟩
def iL (g:DE->iA Dt)(gs:DE->iA (List Dt)):DE->iA (List Dt):=λ δ=>(g δ).bind λ x=>(gs δ).map λ r=>x::r
theorem iS:PDs X [] iQ:=jb.of λ σ H Q ⟨δ,d,S,e,q⟩=>by cases e;exact q [] H (iZ.refl H) .nil
theorem iK {g:DE->iA Dt}{gs:DE->iA (List Dt)}(ha:PD X e g)(hr:PDs X es gs)(hs:starEach (e::es) X.env=(false,eval e X.env)::starEach es X.env:=by rfl):PDs X (e::es) (iL g gs) :=
 (iR ha hr hs).of λ σ H Q hz10=>by obtain⟨δ,d,S,e,q⟩:=hz10;obtain⟨x,e1,e⟩:=iP e;obtain⟨r,e2,e⟩:=jr e;subst e;exact⟨δ,x,S,e1,λ v H1 s1 i1=>⟨δ,r,S.ext s1,e2,λ vs H2 s2 i2=>q (v::vs) H2 (s1.trans s2) (.cons (i1.ext s2) i2)⟩⟩
def kL (gs:DE->iA (List Dt)):DE->iA Dt:=λ δ=>(gs δ).bind λ ds=>if ds.length<=1000 then some (.tup ds) else none
def C7 (gs:DE->iA (List Dt)):DE->iA Dt:=λ δ=>(gs δ).bind λ ds=>if ds.length<=1000 then some (.lst ds) else none
set_option tactic.hygienic true in
theorem nT {gs:DE->iA (List Dt)}{x1}(h:PDs X es gs):PD X (.Tuple es x1 pos) (kL gs) :=
 (pI h).of λ σ H Q hz11=>by
  obtain⟨δ,d,S,e,q⟩:=hz11;obtain⟨ds,e1,e⟩:=iP e;split at e
  ·cases e;rename_i hl;exact⟨δ,ds,S,e1,λ vs H1 s1 i1=>⟨uc (by rw[i1.length];exact hl),λ p hp=>q _ _ (s1.trans (iZ.upd hp)) (.tup (SqT.of iU) (i1.ext (iZ.upd hp)))⟩⟩
  ·cases e
set_option tactic.hygienic true in
theorem J7 {gs:DE->iA (List Dt)}(h:PDs X es gs):PD X (.List es pos) (C7 gs) :=
 (me h).of λ σ H Q hz12=>by
  obtain⟨δ,d,S,e,q⟩:=hz12;obtain⟨ds,e1,e⟩:=iP e;split at e
  ·cases e;rename_i hl;exact⟨δ,ds,S,e1,λ vs H1 s1 i1=>⟨uc (by rw[i1.length];exact hl),λ p hp=>q _ _ (s1.trans (iZ.upd hp)) (.lst iU (i1.ext (iZ.upd hp)))⟩⟩
  ·cases e
def jF (f:List Dt->iA Dt)(gs:DE->iA (List Dt)):DE->iA Dt:=λ δ=>(gs δ).bind f
theorem OC {K:iF}{f:List Dt->iA Dt}{gs:DE->iA (List Dt)}(σ:St)(H:Hp)(Q:VK)(h:tD K (jF f gs) σ H Q):tCB (cD K f) (tDs K gs) σ H Q:=by obtain⟨δ,d,S,e,q⟩:=h;obtain⟨ds,e1,e2⟩:=iP e;exact⟨δ,ds,S,e1,λ vs H1 s1 i1=>⟨ds,d,i1,e2,λ v H2 s2 i2=>q v H2 (s1.trans s2) i2⟩⟩
theorem jx {x:Str}{p:Pos}{id:String}{f:List Dt->iA Dt}{gs:DE->iA (List Dt)}(hc:kz X (.builtin id) (cD X.K f))(hm:X.mg x=none)(hv:bootBuiltins x=some (.builtin id))(ha:PDs X (e::es) gs)(hg:Gl X x:=by rfl)(hn:x≠"__name__":=by decide)(hdb:(x==("__debug__":Str))=false:=by decide)
  (he:starEach (e::es) X.env=(false,eval e X.env)::starEach es X.env:=by rfl) (hpl:(backTo pos (starEach es X.env)).any (·.1)=false:=by rfl):PD X (.Call (.Name x p) (e::es) [] pos) (jF f gs):=(lK hc hg hm hv ha hn hdb he hpl).of OC
theorem o7 {x:Str}{p:Pos}{T:String}{f:List Dt->iA Dt}{gs:DE->iA (List Dt)}(hc:kz X (.type T) (cD X.K f))(hm:X.mg x=none)(hv:bootBuiltins x=some (.type T))(ha:PDs X (e::es) gs)(hg:Gl X x:=by rfl)(hn:x≠"__name__":=by decide)(hdb:(x==("__debug__":Str))=false:=by decide)
  (he:starEach (e::es) X.env=(false,eval e X.env)::starEach es X.env:=by rfl) (hpl:(backTo pos (starEach es X.env)).any (·.1)=false:=by rfl):PD X (.Call (.Name x p) (e::es) [] pos) (jF f gs):=(o4 hc hg hm hv ha hn hdb he hpl).of OC
def iT (n:Nat)(f:List Dt->iA Dt)(gs:DE->iA (List Dt)):DE->iA Dt:=λ δ=>(gs δ).bind λ ds=>if ds.length=n then f ds else none
set_option tactic.hygienic true in
theorem P8 {x:Str}{p:Pos}{k n:Nat}{f:Addr}{fd:FuncData}{ps:List Str}{fD:List Dt->iA Dt}{gs:DE->iA (List Dt)}(F:vk X.prog X.w X.K X.mg X.base CX0 k f fd ps (spD X.K n fD))(hr:lV k X.A)(hm:X.mg x=some (.ref f))(hk:PySem.W.keepIn X.K (.ref f)=true)(hb:Binds X.K fd ps [])
  (ha:PDs X (e::es) gs) (hg:Gl X x:=by rfl) (hdb:(x==("__debug__":Str))=false:=by decide) (he:starEach (e::es) X.env=(false,eval e X.env)::starEach es X.env:=by rfl) (hpl:(backTo pos (starEach es X.env)).any (·.1)=false:=by rfl) :
  PD X (.Call (.Name x p) (e::es) [] pos) (iT n fD gs) :=
 (Gd F hr hg hm hk hb .nil Ov ha hdb he hpl).of λ σ H Q hz13=>by
  obtain⟨δ,d,S,e,q⟩:=hz13;obtain⟨ds,e1,e2⟩:=iP e;split at e2
  ·rename_i hl;exact⟨δ,ds,S,e1,λ vs H1 s1 i1=>by show spD X.K n fD (vs++[]) H1 Q E0;rw[cF];exact⟨ds,d,hl,i1,e2,λ v H2 s2 i2=>q v H2 (s1.trans s2) i2⟩⟩
  ·cases e2
end
end L2
namespace Zp
open PySem PySem.Spec PyProof.Rows
section
variable {prog:Program}{w:World}{A:Around}{E:ir}{s:iH}
theorem MI {j t:Addr}{k:Nat}{arr:Array iG}{y:iG}{Q:ir}(hj:s.heap.IsTupleIter j t k)(ht:s.heap.IsTuple t arr)(hy:arr[k]?=some y)
  (fin:∀ g,g.IsTupleIter j t (k+1)->Heap.SameBut j s.heap g->Q y {s with heap:=g}):wpAny (model prog w) A (Builtin.SmallTypes.nextOf (.ref j)) Q E s:=by
 have hty:=hj.typeIs;obtain⟨oj,gj,cj,dj⟩:=hj;obtain⟨ot,gt,_,nt,dt⟩:=ht;unfold Builtin.SmallTypes.nextOf;refine aa (cB (name:=Str.ofString "__next__") hty d9 (cH d9 hty F.entry_tuple_iterator_next ?_ (F.args_tuple_iterator_next_1 _)));show wpAny _ _ (field (.ref j) 0>>=_) _ _ s;refine aa (cN gj dj (x:=.ref t) rfl ?_);show wpAny _ _ (if (Value.ref t==Value.none)=true then _ else _) _ _ s;rw[ah (show ¬ (Value.ref t==Value.none)=true from λ q=>aI q)];show wpAny _ _ (field (.ref j) 1>>=_) _ _ s;refine aa (cN gj dj (x:=.int k 0) rfl ?_);show wpAny _ _ (seqItems? (.ref t)>>=_) _ _ s;refine aa (cZ gt dt ?_);simp only[hy,bQ];refine aa (fL gj dj (by simp) (ao ⟨y,rfl,ao (fin _ ⟨_,ed _ gj (fR (d4 dj _)),(gW ..).trans cj,?_⟩ (df ..))⟩));rw[d4 dj];simp[rawInt]
theorem Fc {j t:Addr}{k:Nat}{arr:Array iG}{Q:ir}(hh:A.handled=none)(hj:s.heap.IsTupleIter j t k)(ht:s.heap.IsTuple t arr)(hy:arr[k]?=none)
  (fin:∀ g e,Heap.ExtBut j s.heap g->(∃ o,g.get? e=some o/\o.cls=.type "StopIteration")->E (.ref e) {s with heap:=g}):wpAny (model prog w) A (Builtin.SmallTypes.nextOf (.ref j)) Q E s:=by
 have hty:=hj.typeIs;obtain⟨oj,gj,cj,dj⟩:=hj;obtain⟨ot,gt,_,nt,dt⟩:=ht;unfold Builtin.SmallTypes.nextOf;refine aa (cB (name:=Str.ofString "__next__") hty d9 (cH d9 hty F.entry_tuple_iterator_next ?_ (F.args_tuple_iterator_next_1 _)));show wpAny _ _ (field (.ref j) 0>>=_) _ _ s;refine aa (cN gj dj (x:=.ref t) rfl ?_);show wpAny _ _ (if (Value.ref t==Value.none)=true then _ else _) _ _ s;rw[ah (show ¬ (Value.ref t==Value.none)=true from λ q=>aI q)];show wpAny _ _ (field (.ref j) 1>>=_) _ _ s;refine aa (cN gj dj (x:=.int k 0) rfl ?_);show wpAny _ _ (seqItems? (.ref t)>>=_) _ _ s;refine aa (cZ gt dt ?_);simp only[hy,bQ];refine aa (wpAny_rule (aa (fL gj dj (by simp) (show wpAny _ _ (newExc (.type "StopIteration") []>>=_) _ _ _ from aa ?_))));simp only[newTuple,newExc];refine aa (cu (aa (m:=firstArgMember _ _) (wpAny_of_eq (a:=Value.none) (by first | rfl | (simp only[firstArgMember];rfl)) (cu ?_ (by size_fits)))) (by size_fits));simp only[raiseNew];refine aa (wpAny_handled ?_);first | rw[hh] | rw[show A.in1.handled=none from hh]
 exact aa (ao (wpAny_throw (fin _ _ (((df ..).extBut.push _).push _) ⟨_,aS _ rfl,rfl⟩)))
theorem J8 (hh:A.handled=none)(j t:Addr)(ne:t≠j)(arr:Array iG):Draws prog w A j [j,t] arr.size (λ i v=>arr[i]?=some v) (λ i h=>h.IsTupleIter j t i/\h.IsTuple t arr) where
 live:=λ _ _ st=>let ⟨o,ho,_⟩:=st.1;⟨o,ho⟩
 frame:=λ _ _ _ st hk=>⟨let ⟨o,ho,r⟩:=st.1;⟨o,hk j (by simp) o ho,r⟩,let ⟨o,ho,r⟩:=st.2;⟨o,hk t (by simp) o ho,r⟩⟩
 item:=λ i s Q E hi st fin=>MI st.1 st.2 (y:=arr[i]) (by simp[hi]) λ g a b=>fin _ g s.toks (by simp[hi]) ⟨a,st.2.extBut b.extBut ne⟩ b
 done:=λ s Q E st fin=>Fc hh st.1 st.2 (by simp) fin
structure Ap (z T O i j:Addr)(f g:List Addr):Prop where
 Tz:T≠z
 Oz:O≠z
 TO:T≠O
 iz:i≠z
 jz:j≠z
 Ti:T≠i
 Tj:T≠j
 Oi:O≠i
 Oj:O≠j
 ij:i≠j
 zf:z∉f
 zg:z∉g
 Of:O∉f
 Og:O∉g
 jf:j∉f
 ig:i∉g
variable {z T O i j:Addr}{f g:List Addr}{n m:Nat}{P R:Nat->iG->Prop}{S U:Nat->Heap->Prop}
theorem Sb (ap:Ap z T O i j f g)(C:Draws prog w A i f n P S)(D:Draws prog w A j g m R U){k:Nat}{a b:iG}{Q:ir}(hn:k<n)(hm:k<m)
  (hz:IsZip s.heap z T O .none) (hT:IsPair s.heap T (.ref i) (.ref j)) (hO:IsPair s.heap O a b) (h1:S k s.heap) (h2:U k s.heap)
  (fin:∀ h' N tk x y,P k x->R k y->s.heap.objs.size<=N->IsZip h' z T O (rawInt N)->IsPair h' O x y->S (k+1) h'->U (k+1) h'->IsPair h' N x y ->
   (∀ c o,c≠z->c≠O->c≠i->c≠j->s.heap.get? c=some o->h'.get? c=some o)->Q (.ref N) {s with heap:=h',toks:=tk}) :
  wpAny (model prog w) A (Builtin.«zip.__next__» ⟨[.ref z],[]⟩) (λ fn s'=>∃ v,fn=.done (.ret v)/\Q v s') E s:=by
 show wpAny _ _ (field (.ref z) 2>>=_) _ _ _;refine aa (cN hz rfl (x:=.bool false) rfl (show wpAny _ _ (field (.ref z) 3>>=_) _ _ _ from aa (cN hz rfl (x:=.ref T) rfl (aa (cZ hT rfl ?_)))));show wpAny _ _ (Builtin.SmallTypes.ownedTupleIsFree (.ref z)>>=_) _ _ _;refine aa ?_;unfold Builtin.SmallTypes.ownedTupleIsFree;refine aa (cN hz rfl (x:=.none) rfl (ao ?_));simp only[cM];refine aa (wpAny_rule (aa (cN hz rfl (x:=.ref O) rfl (aa (d_ hz (by simp) λ g1 hz1 e1=>?_)))));replace hz1:IsZip g1 z T O .ellipsis:=hz1;refine aa ?_;simp only[List.zipIdx_nil,List.zipIdx_cons,ie,hU];have z1:∀ {c o},c≠z->s.heap.get? c=some o->g1.get? c=some o:=λ hc e=>e1.extBut _ _ hc e;have mem:∀ {c y:Addr} {l:List Addr},y∉l->c∈l->c≠y:=λ hn hm e=>hn (e▸hm);refine aa (aa (g0 (show wpAny _ _ (Builtin.SmallTypes.nextOf (.ref i)>>=_) _ _ _ from aa (C.item k _ _ _ hn (C.frame k _ _ h1 λ c hc o e=>z1 (mem ap.zf hc) e) λ x g2 tk2 px s2 e2=>ao ?_))));have hO2:IsPair g2 O a b:=e2.extBut _ _ ap.Oi (z1 ap.Oz hO);refine aa (cZ hO2 rfl (aa (gq hO2 λ g3 hO3 e3=>?_)));replace hO3:IsPair g3 O x b:=hO3;refine aa (wpAny_letGo (ao (aa (aa (g0 ?_)))));show wpAny _ _ (Builtin.SmallTypes.nextOf (.ref j)>>=_) _ _ _;refine aa (D.item k _ _ _ hm (D.frame k _ _ h2 λ c hc o e=>e3.extBut _ _ (mem ap.Og hc) (e2.extBut _ _ (mem ap.ig hc) (z1 (mem ap.zg hc) e))) λ y g4 tk4 py s4 e4=>ao ?_);have hO4:IsPair g4 O x b:=e4.extBut _ _ ap.Oj hO3;refine aa (cZ hO4 rfl (aa (gq hO4 λ g5 hO5 e5=>?_)));replace hO5:IsPair g5 O x y:=hO5;refine aa (wpAny_letGo (ao (ao (aa (cZ hO5 rfl (aa (wpAny_newTuple ?_)))))));have size5:g5.objs.size=s.heap.objs.size:=by rw[e5.1,e4.1,e3.1,e2.1,e1.1]
 have hz5:IsZip g5 z T O .ellipsis:=e5.extBut _ _ ap.Oz.symm (e4.extBut _ _ ap.jz.symm (e3.extBut _ _ ap.Oz.symm (e2.extBut _ _ ap.iz.symm hz1)));have k5:∀ c o,c≠z->c≠O->c≠i->c≠j->s.heap.get? c=some o->g5.get? c=some o:=λ c o q1 q2 q3 q4 e=>e5.extBut _ _ q2 (e4.extBut _ _ q4 (e3.extBut _ _ q2 (e2.extBut _ _ q3 (z1 q1 e))));have s5:S (k+1) g5:=C.frame _ _ _ s2 λ c hc o e=>e5.extBut _ _ (mem ap.Of hc) (e4.extBut _ _ (mem ap.jf hc) (e3.extBut _ _ (mem ap.Of hc) e));have u5:U (k+1) g5:=D.frame _ _ _ s4 λ c hc o e=>e5.extBut _ _ (mem ap.Og hc) e;have zlt:z<g5.objs.size:=aE hz5;show wpAny _ _ (Builtin.SmallTypes.ownedTupleHandOut (.ref z) (.ref g5.objs.size)>>=_) _ _ _;refine aa ?_;unfold Builtin.SmallTypes.ownedTupleHandOut;have hz6:IsZip (g5.push {cls:=.type "tuple",data:=.seq #[x,y]}) z T O .ellipsis:=ai _ hz5;refine aa (d_ hz6 (by simp) λ g7 hz7 e7=>?_);replace hz7:IsZip g7 z T O (rawInt g5.objs.size):=hz7;refine d_ hz7 (by simp) λ g8 hz8 e8=>ao ⟨_,rfl,?_⟩;have up:∀ c o,c≠z->g5.get? c=some o->g8.get? c=some o:=λ c o q e=>e8.extBut _ _ q (e7.extBut _ _ q (ai _ e));exact fin g8 g5.objs.size _ x y px py (gG size5.symm) hz8 (up _ _ ap.Oz hO5) (C.frame _ _ _ s5 λ c hc o e=>up _ _ (mem ap.zf hc) e) (D.frame _ _ _ u5 λ c hc o e=>up _ _ (mem ap.zg hc) e)
  (e8.extBut _ _ (cX zlt) (e7.extBut _ _ (cX zlt) (aS _ rfl))) λ c o q1 q2 q3 q4 e=>up c o q1 (k5 c o q1 q2 q3 q4 e)
theorem zEnd (ap:Ap z T O i j f g)(C:Draws prog w A i f n P S)(D:Draws prog w A j g m R U){k:Nat}{a b:iG}{Q:Fin->iH->Prop}(hk:k=n\/(k<n/\k=m))
  (hz:IsZip s.heap z T O .none) (hT:IsPair s.heap T (.ref i) (.ref j)) (hO:IsPair s.heap O a b) (h1:S k s.heap) (h2:U k s.heap)
  (fin:∀ h' e tk,(∀ c o,c≠z->c≠O->c≠i->c≠j->s.heap.get? c=some o->h'.get? c=some o)->(∃ o,h'.get? e=some o/\o.cls=.type "StopIteration")->E (.ref e) {s with heap:=h',toks:=tk}) :
  wpAny (model prog w) A (Builtin.«zip.__next__» ⟨[.ref z],[]⟩) Q E s:=by
 show wpAny _ _ (field (.ref z) 2>>=_) _ _ _;refine aa (cN hz rfl (x:=.bool false) rfl (show wpAny _ _ (field (.ref z) 3>>=_) _ _ _ from aa (cN hz rfl (x:=.ref T) rfl (aa (cZ hT rfl ?_)))));show wpAny _ _ (Builtin.SmallTypes.ownedTupleIsFree (.ref z)>>=_) _ _ _;refine aa ?_;unfold Builtin.SmallTypes.ownedTupleIsFree;refine aa (cN hz rfl (x:=.none) rfl (ao ?_));simp only[cM];refine aa (wpAny_rule (aa (cN hz rfl (x:=.ref O) rfl (aa (d_ hz (by simp) λ g1 hz1 e1=>?_)))));replace hz1:IsZip g1 z T O .ellipsis:=hz1;refine aa ?_;simp only[List.zipIdx_nil,List.zipIdx_cons,ie,hU];have z1:∀ {c o},c≠z->s.heap.get? c=some o->g1.get? c=some o:=λ hc e=>e1.extBut _ _ hc e;have mem:∀ {c y:Addr} {l:List Addr},y∉l->c∈l->c≠y:=λ hn hm e=>hn (e▸hm);have st1:S k g1:=C.frame k _ _ h1 λ c hc o e=>z1 (mem ap.zf hc) e;refine aa (aa (g0 ?_));show wpAny _ _ (Builtin.SmallTypes.nextOf (.ref i)>>=_) _ _ _;rcases hk with rfl | ⟨hn,rfl⟩
 ·refine aa (C.done _ _ _ st1 λ g2 e x2 ⟨oe,he,ce⟩=>?_)
  have hz2:IsZip g2 z T O .ellipsis:=x2 _ _ ap.iz.symm hz1;have ez:e≠z:=λ q=>by subst q;rw[hz2]at he;cases he;simp at ce
  exact d_ hz2 (by simp) λ g3 _ e3=>fin g3 e _ (λ c o q1 _ q3 _ x=>e3.extBut _ _ q1 (x2 _ _ q3 (z1 q1 x))) ⟨oe,e3.extBut _ _ ez he,ce⟩
 ·refine aa (C.item k _ _ _ hn st1 λ x g2 tk2 px s2 e2=>ao ?_)
  have hO2:IsPair g2 O a b:=e2.extBut _ _ ap.Oi (z1 ap.Oz hO);refine aa (cZ hO2 rfl (aa (gq hO2 λ g3 hO3 e3=>aa (wpAny_letGo (ao (aa (aa (g0 ?_))))))));show wpAny _ _ (Builtin.SmallTypes.nextOf (.ref j)>>=_) _ _ _;refine aa (D.done _ _ _ (D.frame k _ _ h2 λ c hc o e=>e3.extBut _ _ (mem ap.Og hc) (e2.extBut _ _ (mem ap.ig hc) (z1 (mem ap.zg hc) e))) λ g4 e x4 ⟨oe,he,ce⟩=>?_);have hz4:IsZip g4 z T O .ellipsis:=x4 _ _ ap.jz.symm (e3.extBut _ _ ap.Oz.symm (e2.extBut _ _ ap.iz.symm hz1));have ez:e≠z:=λ q=>by subst q;rw[hz4]at he;cases he;simp at ce
  exact d_ hz4 (by simp) λ g5 _ e5=>fin g5 e _ (λ c o q1 q2 q3 q4 x=>e5.extBut _ _ q1 (x4 _ _ q4 (e3.extBut _ _ q2 (e2.extBut _ _ q3 (z1 q1 x))))) ⟨oe,e5.extBut _ _ ez he,ce⟩
theorem Sd (ap:Ap z T O i j f g)(C:Draws prog w A.in1 i f n P S)(D:Draws prog w A.in1 j g m R U){k:Nat}{a b:iG}{Q:iA iG->iH->Prop}(hn:k<n)(hm:k<m)
  (hz:IsZip s.heap z T O .none) (hT:IsPair s.heap T (.ref i) (.ref j)) (hO:IsPair s.heap O a b) (h1:S k s.heap) (h2:U k s.heap)
  (fin:∀ h' N tk x y,P k x->R k y->s.heap.objs.size<=N->IsZip h' z T O (rawInt N)->IsPair h' O x y->S (k+1) h'->U (k+1) h'->IsPair h' N x y ->
   (∀ c o,c≠z->c≠O->c≠i->c≠j->s.heap.get? c=some o->h'.get? c=some o)->Q (some (.ref N)) {s with heap:=h',toks:=tk}) :
  wpAny (model prog w) A (pyNext (.ref z)) Q E s:=by
 have ty:s.TypeIs (.ref z) "zip":=⟨_,hz,rfl⟩;unfold pyNext;exact aa (gZ (cB (name:=Str.ofString "__next__") ty gz (cH gz ty F.entry_zip_next
  (Sb ap C D hn hm hz hT hO h1 h2 λ h' N tk x y q1 q2 q3 q4 q5 q6 q7 q8 q9=>ao (fin h' N tk x y q1 q2 q3 q4 q5 q6 q7 q8 q9)) (F.args_zip_next_1 _))))
theorem Se (ap:Ap z T O i j f g)(C:Draws prog w A.in1 i f n P S)(D:Draws prog w A.in1 j g m R U){k:Nat}{a b:iG}{Q:iA iG->iH->Prop}(hk:k=n\/(k<n/\k=m))
  (hz:IsZip s.heap z T O .none) (hT:IsPair s.heap T (.ref i) (.ref j)) (hO:IsPair s.heap O a b) (h1:S k s.heap) (h2:U k s.heap)
  (fin:∀ h' tk,(∀ c o,c≠z->c≠O->c≠i->c≠j->s.heap.get? c=some o->h'.get? c=some o)->Q none {s with heap:=h',toks:=tk}) :
  wpAny (model prog w) A (pyNext (.ref z)) Q E s:=by
 have ty:s.TypeIs (.ref z) "zip":=⟨_,hz,rfl⟩;unfold pyNext;refine aa (gZ (cB (name:=Str.ofString "__next__") ty gz (cH gz ty F.entry_zip_next
  (zEnd ap C D hk hz hT hO h1 h2 λ h' e tk q1 ⟨o,q2,q3⟩=>?_) (F.args_zip_next_1 _))))
 exact aa (wpAny_isInstance (T:="StopIteration") (b:=true) ⟨o,q2,q3⟩ isSubtype_stop (ao (fin _ _ q1)))
end
open L2
def nB (t:Bool)(a:Addr):Obj:=match t with
 | true=>{cls:=.type "tuple_iterator",data:=.fields #[.ref a,.int 0 0]}
 | false=>{cls:=.type "list_iterator",data:=.fields #[.ref a,.int 0 0]}
def IsB (t:Bool)(h:Heap)(a:Addr)(arr:Array iG):Prop:=match t with
 | true=>h.IsTuple a arr
 | false=>h.IsList a arr
def ItB (t:Bool)(h:Heap)(j a:Addr)(k:Nat):Prop:=match t with
 | true=>h.IsTupleIter j a k
 | false=>h.IsListIter j a k
def SqB (t:Bool)(K:iF)(H:Hp)(a:Addr)(xs:List V):Prop:=match t with
 | true=>SqT K H a xs
 | false=>SqL K H a xs
section
variable {prog:Program}{w:World}{A:Around}{E:ir}{s:iH}
theorem sk {t:Bool}{a:Addr}{arr:Array iG}{Q:ir}(h:IsB t s.heap a arr)(q:Q (.ref s.heap.objs.size) {s with heap:=s.heap.push (nB t a)}):wpAny (model prog w) A (pyIter (.ref a)) Q E s:=by
 cases t with
 | true=>exact wpAny_pyIter_tuple h q
 | false=>exact fJ h q
theorem IsB.push {t:Bool}{h:Heap}{a:Addr}{arr:Array iG}(x:IsB t h a arr)(o:Obj):IsB t (h.push o) a arr:=by
 cases t with
 | true=>exact Heap.IsTuple.push x o
 | false=>exact Heap.IsList.push x o
theorem ItB.keep {t:Bool}{h h':Heap}{j a:Addr}{k:Nat}(x:ItB t h j a k)(e:∀ o,h.get? j=some o->h'.get? j=some o):ItB t h' j a k:=by
 cases t with
 | true=>obtain⟨o,ho,r⟩:=x;exact⟨o,e o ho,r⟩
 | false=>obtain⟨o,ho,r⟩:=x;exact⟨o,e o ho,r⟩
theorem ItB.obj {t:Bool}{h:Heap}{j a:Addr}{k:Nat}(x:ItB t h j a k):∃ o,h.get? j=some o/\∀ v,o.data≠.cell v:=by
 cases t with
 | true=>obtain⟨o,ho,c,d⟩:=x;exact⟨o,ho,λ v z=>by rw[d]at z;cases z⟩
 | false=>obtain⟨o,ho,c,d⟩:=x;exact⟨o,ho,λ v z=>by rw[d]at z;cases z⟩
theorem vA {t:Bool}(hh:A.handled=none)(j a:Addr)(ne:a≠j)(arr:Array iG):Draws prog w A j [j,a] arr.size (λ i v=>arr[i]?=some v) (λ i h=>ItB t h j a i/\IsB t h a arr):=by
 cases t with
 | true=>exact J8 hh j a ne arr
 | false=>exact Draws.list hh j a ne arr
def qI (t1 t2:Bool)(l1 l2:Addr)(h:Heap):Heap :=
 ((((h.push (nB t1 l1)).push (nB t2 l2)).push ⟨.type "tuple",none,.seq #[.ref h.objs.size,.ref (h.objs.size+1)] 0,#[]⟩).push ⟨.type "tuple",none,.seq #[.none,.none] 0,#[]⟩).push ⟨.type "zip",none,.fields #[.none,.bool false,.bool false,.ref (h.objs.size+2),.ref (h.objs.size+3)],#[]⟩
theorem P9 (t1 t2:Bool)(l1 l2:Addr)(xs ys:Array iG) :
  Meets (Builtin.«zip.__new__» ⟨[.type "zip",.ref l1,.ref l2],[]⟩) (λ _ R s=>IsB t1 s.heap l1 xs/\IsB t2 s.heap l2 ys/\R (.ok (.ret (.ref (s.heap.objs.size+4)))) {s with heap:=qI t1 t2 l1 l2 s.heap}) :=
 .of_wp λ prog w A R s h=>by
  obtain⟨hp,g,d,tk,os⟩:=s;obtain⟨hl1,hl2,h⟩:=h;have hsub:=sub_zip;have hL1:IsB t1 (Shared.heap ⟨hp,g,d,tk,os⟩) l1 xs:=hl1;have hL2:IsB t2 (Shared.heap ⟨hp.push (nB t1 l1),g,d,tk,os⟩) l2 ys:=IsB.push hl2 _
  wp_walk using sk hL1,sk hL2
  refine⟨_,rfl,?_⟩;unfold qI at h;simp only[cQ]at h ⊢;exact h
end
end Zp
namespace L2
open PySem PySem.Spec PyProof.Rows Zp
section
variable {X:Cx}{pins:iJ}{σ:St}{H:Hp}{s:iH}{h':Heap}
theorem Inv.rP {t':Nat}{fp:List Addr}(I:Inv X pins σ H s)(k:∀ b o,b∉fp->s.heap.get? b=some o->h'.get? b=some o)(hf:∀ b∈fp,vc X pins H b):Inv X pins σ H {s with heap:=h',toks:=t'}:=by
 have nit:∀ b u,H b=some u->b∉fp:=λ b u e z=>by rw[(hf b z).1]at e;cases e
 refine I.step (g':=s.gens) (d':=s.drawn) (ch:=fp) (λ b hb=>⟨(hf b hb).2.2.2.1,(hf b hb).2.1,(hf b hb).2.2.2.2.1,(hf b hb).2.2.2.2.2⟩) (λ b o _ _ hc e _=>k b o hc e) (λ b o _ _ hc e _=>⟨o.slots,k b o hc e⟩) (λ _ _ _ _ n=>n)
  (λ b o hc e=>⟨o,k b o hc e⟩) (λ _ _ e=>e) (λ _ _ _ e=>e) (λ b ps e=>⟨#[],by rw[e];simp⟩) (λ m hm=>?_) (λ b u e=>?_) I.bare
 ·obtain⟨o,es,ep,ho,r⟩:=hm;exact⟨o,es,ep,k _ o (λ z=>(hf _ z).2.1 rfl) ho,r⟩
 ·refine(I.hok b u e).CA (λ c v hc q=>k c v ?_ q) (λ _ q=>q) λ _ _ q=>q
  rcases hc with z | z
  ·rw[z];exact nit b u e
  ·exact nit c _ z
theorem Inv.pM {t:Bool}{a:Addr}{xs:List V}(I:Inv X pins σ H s)(h:SqB t X.K H a xs):∃ its:List iG,Vals xs its/\IsB t s.heap a its.toArray/\xs.length<=sizeLine:=by
 cases t with
 | true=>obtain⟨its,r,p,z⟩:=I.tuple h;exact⟨its,r,p,z⟩
 | false=>obtain⟨its,r,p,z⟩:=I.list h;exact⟨its,r,p.isList,z⟩
theorem Inv.ym {t:Bool}{a:Addr}{xs ys:List V}(I:Inv X pins σ H s)(h:SqB t X.K H a xs)(h':SqB t X.K H a ys):xs=ys:=by
 cases t with
 | true=>exact I.vb h h'
 | false=>exact I.CD h h'
theorem ItB.cls {t:Bool}{h:Heap}{j a:Addr}{k:Nat}(x:ItB t h j a k):∃ o,h.get? j=some o/\o.cls≠.type "tuple"/\o.cls≠.type "list":=by
 cases t with
 | true=>obtain⟨o,ho,c,d⟩:=x;exact⟨o,ho,by rw[c];decide,by rw[c];decide⟩
 | false=>obtain⟨o,ho,c,d⟩:=x;exact⟨o,ho,by rw[c];decide,by rw[c];decide⟩
def Itz (t1 t2:Bool)(K:iF)(a b:Addr):It :=
  ⟨λ i H=>∃ xs ys,SqB t1 K H a xs/\SqB t2 K H b ys/\i<xs.length/\i<ys.length,
   λ i H v H'=>∃ p x y,v=.ref p/\H p=none/\H'=upd H p (.tup [x,y])/\(∀ xs,SqB t1 K H a xs->xs[i]?=some x)/\(∀ ys,SqB t2 K H b ys->ys[i]?=some y),
   λ i H=>∃ xs ys,SqB t1 K H a xs/\SqB t2 K H b ys/\(i=xs.length\/(i<xs.length/\i=ys.length))⟩
def tnz (t1 t2:Bool)(a b z T O i j:Addr)(k:Nat)(h:Heap):Prop:=IsZip h z T O .none/\IsPair h T (.ref i) (.ref j)/\(∃ x y,IsPair h O x y)/\ItB t1 h i a k/\ItB t2 h j b k
theorem Sf (z T O i j:Addr):z∈[z,T,O,i,j]/\T∈[z,T,O,i,j]/\O∈[z,T,O,i,j]/\i∈[z,T,O,i,j]/\j∈[z,T,O,i,j]:=by simp
theorem OD {z T O i j a b:Addr}(Tz:T≠z)(Oz:O≠z)(TO:T≠O)(iz:i≠z)(jz:j≠z)(Ti:T≠i)(Tj:T≠j)(Oi:O≠i)(Oj:O≠j)(ij:i≠j)(az:a≠z)(bz:b≠z)(aO:a≠O)(bO:b≠O)(aj:a≠j)(bi:b≠i):Ap z T O i j [i,a] [j,b] :=
 ⟨Tz,Oz,TO,iz,jz,Ti,Tj,Oi,Oj,ij,by simp[aX iz,aX az],by simp[aX jz,aX bz],by simp[Oi,aX aO],by simp[Oj,aX bO],by simp[aX ij,aX aj],by simp[ij,aX bi]⟩
theorem vB {X:Cx}{pins:iJ}{σ:St}{H:Hp}{s:iH}{fp:List Addr}(I:Inv X pins σ H s)(hf:∀ q∈fp,vc X pins H q){t:Bool}{c:Addr}{zs:List V}(hs:SqB t X.K H c zs)(q:Addr)(hq:q∈fp):c≠q:=by
 intro e;have hn:=(hf q hq).1;have hnk:X.K.lookup q=none:=by
  cases hkq:X.K.lookup q with
  | none=>rfl
  | some oo =>
   have hb:=I.ok.mod.kin q oo hkq;exfalso;rcases (hf q hq).2.2.2.1 with hx | hx
   ·exact I.ok.HQ q oo hb hx
   ·exact bD _ (aJ (aE hb) (bf I.ok.bsz hx))
 rw[e]at hs;cases t with
 | true =>
  rcases hs with (r | ⟨_,r⟩) | ⟨oo,_,_,r,_⟩
  ·rw[hn]at r;cases r
  ·rw[hn]at r;cases r
  ·rw[hnk]at r;cases r
 | false =>
  rcases hs with (r | ⟨_,r⟩) | ⟨oo,_,_,r,_⟩
  ·rw[hn]at r;cases r
  ·rw[hn]at r;cases r
  ·rw[hnk]at r;cases r
theorem J9 {P:Program}{w:World}{K:iF}{elts:List Expr}{kk:Nat}{ps:Pos}(t1 t2:Bool)(a b z T O i j:Addr)(Tz:T≠z)(Oz:O≠z)(TO:T≠O)(iz:i≠z)(jz:j≠z)(Ti:T≠i)(Tj:T≠j)(Oi:O≠i)(Oj:O≠j)(ij:i≠j) :
  Turn P w K (.Tuple elts kk ps) (Itz t1 t2 K a b) [z,T,O,i,j] z (tnz t1 t2 a b z T O i j) where
 mem:=by simp
 obj:=λ k h st c hc=>by
  obtain⟨hz,hT,⟨x,y,hO⟩,h1,h2⟩:=st;simp only[aN,cv,or_false]at hc;rcases hc with rfl | rfl | rfl | rfl | rfl
  ·exact⟨_,hz,λ v q=>by cases q⟩
  ·exact⟨_,hT,λ v q=>by cases q⟩
  ·exact⟨_,hO,λ v q=>by cases q⟩
  ·exact h1.obj
  ·exact h2.obj
 keep:=λ k h h' st kp=>by obtain⟨hz,hT,⟨x,y,hO⟩,h1,h2⟩:=st;exact⟨kp z (by simp) _ hz,kp T (by simp) _ hT,⟨x,y,kp O (by simp) _ hO⟩,h1.keep λ o e=>kp i (by simp) o e,h2.keep λ o e=>kp j (by simp) o e⟩
 item:=by
  intro X hP hw hK hc k pins s σ H E I hf st hg;subst hP hw hK;obtain⟨xs,ys,hq1,hq2,hk1,hk2⟩:=hg;obtain⟨hz,hT,⟨x0,y0,hO⟩,h1,h2⟩:=st;obtain⟨its1,rv1,p1,_⟩:=I.pM hq1;obtain⟨its2,rv2,p2,_⟩:=I.pM hq2;obtain⟨oi,gi,ci,ci'⟩:=ItB.cls (t:=t1) (h:=s.heap) (j:=i) (a:=a) (k:=k) h1;obtain⟨oj,gj,cj,cj'⟩:=ItB.cls (t:=t2) (h:=s.heap) (j:=j) (a:=b) (k:=k) h2;have hl1:=rv1.length;have hl2:=rv2.length;have m5:=Sf z T O i j;have na:=vB I hf hq1;have nb:=vB I hf hq2;have ap:=OD Tz Oz TO iz jz Ti Tj Oi Oj ij (na _ m5.1) (nb _ m5.1) (na _ m5.2.2.1) (nb _ m5.2.2.1) (na _ m5.2.2.2.2) (nb _ m5.2.2.2.1);refine Sd ap (vA (prog:=X.prog) (w:=X.w) (A:=X.A.in1) (t:=t1) (show X.A.in1.handled=none from I.ok.hd hc) i a (na i m5.2.2.2.1) its1.toArray) (vA (prog:=X.prog) (w:=X.w) (A:=X.A.in1) (t:=t2) (show X.A.in1.handled=none from I.ok.hd hc) j b (nb j m5.2.2.2.2) its2.toArray) (by simp;lia) (by simp;lia) hz hT hO ⟨h1,p1⟩ ⟨h2,p2⟩ ?_;intro h' N tk x y px py hN hz' hO' s1 s2 hNp kp;refine⟨.ref N,rfl,?_⟩;have I1:Inv X pins σ H {s with heap:=h',toks:=tk}:=I.rP (fp:=[z,T,O,i,j]) (λ c o hc' e=>kp c o (λ q=>hc' (q▸m5.1)) (λ q=>hc' (q▸m5.2.2.1)) (λ q=>hc' (q▸m5.2.2.2.1)) (λ q=>hc' (q▸m5.2.2.2.2)) e) hf;have hxk:xs[k]?=some (xs[k]'hk1):=by simp[hk1]
  have hyk:ys[k]?=some (ys[k]'hk2):=by simp[hk2]
  obtain⟨u1,e1,r1⟩:=rv1.get hxk;obtain⟨u2,e2,r2⟩:=rv2.get hyk;have px':its1[k]?=some x:=by simpa using px
  have py':its2[k]?=some y:=by simpa using py
  rw[e1]at px';cases px';rw[e2]at py';cases py';have hNn:H N=none:=I.hok.fresh hN;have I2:Inv X pins σ (upd H N (.tup [xs[k],ys[k]])) {s with heap:=h',toks:=tk}:=I1.Gz hNn (bf I.sz hN) (cX (aJ I.lt hN)) (λ x c e q=>by
    obtain⟨v,o,ho,_⟩:=I.cell x c e;exact absurd (aE ho) (by rw[q];exact fC.mpr hN)) (λ p hp q=>absurd (aE (I.pin p hp).1) (by rw[q];exact fC.mpr hN))
   ⟨⟨by rw[sizeLine_eq];simp,_,hNp,rfl⟩,[x,y],.cons r1 (.cons r2 .nil),⟨_,hNp,rfl,0,rfl⟩⟩
  have nfp:∀ q∈[z,T,O,i,j],q≠N:=λ q hq e=>by
   have:q<s.heap.objs.size:=by
    simp only[aN,cv,or_false]at hq;rcases hq with rfl | rfl | rfl | rfl | rfl
    ·exact aE hz
    ·exact aE hT
    ·exact aE hO
    ·exact aE gi
    ·exact aE gj
   rw[e]at this;exact bD _ (aJ this hN)
  have hf2:∀ q∈[z,T,O,i,j],vc X pins (upd H N (.tup [xs[k],ys[k]])) q:=λ q hq=>⟨by rw[ja (nfp q hq)];exact(hf q hq).1,(hf q hq).2⟩;refine wpAny_letOwnedTupleGo_zip hz' λ h2' hz2 sb=>?_;refine⟨.ref N,_,I2.rP (t':=tk) (fp:=[z,T,O,i,j]) (λ c o hc' e=>sb.extBut _ _ (λ q=>hc' (by simp[q])) e) hf2,rfl,⟨N,_,_,rfl,hNn,rfl,λ zs hs=>?_,λ zs hs=>?_⟩,⟨hz2,sb.extBut _ _ Tz (kp T _ Tz TO Ti Tj hT),⟨_,_,sb.extBut _ _ Oz hO'⟩,s1.1.keep λ o e=>sb.extBut _ _ iz e,s2.1.keep λ o e=>sb.extBut _ _ jz e⟩,λ q hq=>(hf2 q hq).1⟩
  ·rw[I.ym hs hq1];exact hxk
  ·rw[I.ym hs hq2];exact hyk
 done:=by intro X hP hw hK hc k pins s σ H E I hf st hg;subst hP hw hK;obtain⟨xs,ys,hq1,hq2,hk⟩:=hg;obtain⟨hz,hT,⟨x0,y0,hO⟩,h1,h2⟩:=st;obtain⟨its1,rv1,p1,_⟩:=I.pM hq1;obtain⟨its2,rv2,p2,_⟩:=I.pM hq2;have hl1:=rv1.length;have hl2:=rv2.length;have m5:=Sf z T O i j;have na:=vB I hf hq1;have nb:=vB I hf hq2;have ap:=OD Tz Oz TO iz jz Ti Tj Oi Oj ij (na _ m5.1) (nb _ m5.1) (na _ m5.2.2.1) (nb _ m5.2.2.1) (na _ m5.2.2.2.2) (nb _ m5.2.2.2.1);refine Se ap (vA (prog:=X.prog) (w:=X.w) (A:=X.A.in1) (t:=t1) (show X.A.in1.handled=none from I.ok.hd hc) i a (na i m5.2.2.2.1) its1.toArray) (vA (prog:=X.prog) (w:=X.w) (A:=X.A.in1) (t:=t2) (show X.A.in1.handled=none from I.ok.hd hc) j b (nb j m5.2.2.2.2) its2.toArray) (k:=k) (by simp;lia) hz hT hO ⟨h1,p1⟩ ⟨h2,p2⟩ ?_;intro h' tk kp;exact⟨rfl,I.rP (fp:=[z,T,O,i,j]) (λ c o hc' e=>kp c o (λ q=>hc' (q▸m5.1)) (λ q=>hc' (q▸m5.2.2.1)) (λ q=>hc' (q▸m5.2.2.2.1)) (λ q=>hc' (q▸m5.2.2.2.2)) e) hf⟩
 self:=λ _ _ _ _ _ st h=>wpAny_pyIter_zip st.1 h
end
def Sg (K:iF)(J:It)(H:Hp)(ds:List Dt):Prop:=∀ H',iZ H H'->(∀ (i:Nat) d,ds[i]?=some d->J.go i H'/\∀ x H'',J.yld i H' x H''->iZ H' H''/\Is K H'' x d)/\J.stop ds.length H'
def iD (K:iF)(g:DE->iA (List Dt)):TI:=λ σ H R=>∃ δ ds,Sat K H σ δ/\g δ=some ds/\∀ J H',iZ H H'->Sg K J H' ds->R J H'
section
variable {X:Cx}{e a b c:Expr}{es:List Expr}{pos:Pos}{tg iter:Expr}
theorem PI.of {t t':TI}(h:PI X tg iter t)(w:∀ σ H Q,t' σ H Q->t σ H Q):PI X tg iter t':=λ pins s σ H Q I q=>h pins s σ H Q I (w σ H Q q)
def ud:Dt->iA (List Dt)
 | .tup ds=>some ds
 | _=>none
def GF:Dt->iA (List Dt)
 | .lst ds=>some ds
 | _=>none
theorem vC {d:Dt}{ds:List Dt}(h:ud d=some ds):d=.tup ds:=by cases d<;>simp[ud]at h;rw[h]
theorem AA {d:Dt}{ds:List Dt}(h:GF d=some ds):d=.lst ds:=by cases d<;>simp[GF]at h;rw[h]
def gI (f:Dt->iA (List Dt))(g:DE->iA Dt):DE->iA (List Dt):=λ δ=>(g δ).bind f
theorem P_ {g:DE->iA Dt}(h:PD X e g):PI X tg e (iD X.K (gI ud g)):=(Js h).of λ σ H R hz1=>by obtain⟨δ,ds,S,q,k⟩:=hz1;obtain⟨x,e1,e2⟩:=iP q;have e2:=vC e2;subst e2;refine⟨δ,_,S,e1,λ v H1 s1 i1=>?_⟩;obtain⟨a,xs,rfl,hq,is⟩:=i1.jy;refine⟨a,rfl,⟨xs,hq⟩,k _ H1 s1 λ H2 s2=>⟨λ i d hd=>?_,⟨xs,s2.t_ hq,by rw[is.length];exact ak _⟩⟩⟩;obtain⟨v,hv,iv⟩:=is.get hd;exact⟨⟨xs,v,s2.t_ hq,hv⟩,λ x H3 hz2=>by obtain⟨e3,y⟩:=hz2;subst e3;have:=y xs (s2.t_ hq);rw[hv]at this;cases this;exact⟨iZ.refl _,iv.ext s2⟩⟩
theorem Qa {g:DE->iA Dt}(h:PD X e g):PI X tg e (iD X.K (gI GF g)):=(xk h).of λ σ H R hz3=>by obtain⟨δ,ds,S,q,k⟩:=hz3;obtain⟨x,e1,e2⟩:=iP q;have e2:=AA e2;subst e2;refine⟨δ,_,S,e1,λ v H1 s1 i1=>?_⟩;obtain⟨a,xs,rfl,hq,is⟩:=i1.lst_inv;refine⟨a,rfl,⟨xs,SqL.of hq⟩,k _ H1 s1 λ H2 s2=>⟨λ i d hd=>?_,⟨xs,s2.seq (SqL.of hq),by rw[is.length];exact ak _⟩⟩⟩;obtain⟨v,hv,iv⟩:=is.get hd;exact⟨⟨xs,v,s2.seq (SqL.of hq),hv⟩,λ x H3 hz4=>by obtain⟨e3,y⟩:=hz4;subst e3;have:=y xs (s2.seq (SqL.of hq));rw[hv]at this;cases this;exact⟨iZ.refl _,iv.ext s2⟩⟩
def yo:List Dt->iA (List Dt)
 | [.int j]=>if j<=1000000/\-1000000<=j then some ((List.range j.toNat).map λ(i:Nat)=>.int i) else none
 | _=>none
def Si:List Dt->iA (List Dt)
 | [.int i,.int j]=>if (-1000000<=i/\i<=1000000)/\j<=1000000/\-1000000<=j then some ((List.range (j-i).toNat).map λ(k:Nat)=>.int (i+k)) else none
 | _=>none
theorem J_ {x ds:List Dt}(e:yo x=some ds):∃ j:Int,x=[.int j]/\(j<=1000000/\-1000000<=j)/\ds=(List.range j.toNat).map λ(i:Nat)=>Dt.int i:=by
 cases x with
 | nil=>cases e
 | cons y r=>cases r with
  | cons _ _=>cases y<;>cases e
  | nil=>cases y with
   | int j =>
    have e:(if j<=1000000/\-1000000<=j then some ((List.range j.toNat).map λ(i:Nat)=>Dt.int i) else none)=some ds:=e;by_cases hj:j<=1000000/\-1000000<=j
    ·rw[af hj]at e;exact⟨j,rfl,hj,(aF e).symm⟩
    ·rw[ah hj]at e;cases e
   | _=>cases e
theorem Qb {K:iF}{H:Hp}(lo:Int)(n:Nat):Sg K (Itr lo n) H ((List.range n).map λ(k:Nat)=>.int (lo+k)):=λ H1 s1=>by
 refine⟨λ i d hd=>?_,by show n<=_;simp⟩;rw[ax]at hd;by_cases hi:i<n
 ·rw[a_ hi]at hd;cases hd;exact⟨hi,λ x H2 ⟨e1,e2⟩=>by subst e1;subst e2;exact⟨iZ.refl _,.int _⟩⟩
 ·rw[bq (by simpa using hi)]at hd;cases hd
theorem Ik {gs:DE->iA (List Dt)}{p:Pos}(hm:X.mg "range"=none)(ha:PDs X [a] gs)(hg:Gl X "range":=by rfl)(hs:starEach [a] X.env=[(false,eval a X.env)]:=by rfl):PI X tg (.Call (.Name "range" p) [a] [] pos) (iD X.K (λ δ=>(gs δ).bind yo)) :=
 (lu hg hm ha hs).of λ σ H R hz5=>by
  obtain⟨δ,ds,S,q,k⟩:=hz5;obtain⟨x,e1,e2⟩:=iP q;obtain⟨j,rfl,hj,rfl⟩:=J_ e2;refine⟨δ,_,S,e1,λ vs H1 s1 i1=>?_⟩;cases i1 with
  | cons i1 i2 =>cases i2;cases i1;refine⟨j,rfl,by lia,by lia,k _ H1 s1 ?_⟩;have:=Qb (K:=X.K) (H:=H1) 0 j.toNat;simpa using this
def itB (t:Bool):Dt->iA (List Dt):=match t with
 | true=>ud
 | false=>GF
theorem Bp {K:iF}{H:Hp}{v:V}{t:Bool}{d:Dt}{ds:List Dt}(h:itB t d=some ds)(i:Is K H v d):∃ a xs,v=.ref a/\SqB t K H a xs/\Iss K H xs ds:=by
 cases t with
 | true=>rw[vC h]at i;exact i.jy
 | false =>rw[AA h]at i;obtain⟨a,xs,e,q,r⟩:=i.lst_inv;exact⟨a,xs,e,SqL.of q,r⟩
theorem iZ.pM {K:iF}{H H':Hp}{t:Bool}{a:Addr}{xs:List V}(e:iZ H H')(h:SqB t K H a xs):SqB t K H' a xs:=by
 cases t with
 | true=>exact e.t_ h
 | false=>exact e.seq h
def Fd (t1 t2:Bool):List Dt->iA (List Dt)
 | [x,y]=>(itB t1 x).bind λ xs=>(itB t2 y).map λ ys=>(xs.zip ys).map λ(p,q)=>.tup [p,q]
 | _=>none
theorem nn {a b:Nat}(h:a≠b):@Ne Addr a b:=h
theorem Ka (t1 t2:Bool)(x y:Addr)(h:Heap):IsZip (qI t1 t2 x y h) (h.objs.size+4) (h.objs.size+2) (h.objs.size+3) .none/\IsPair (qI t1 t2 x y h) (h.objs.size+2) (.ref h.objs.size) (.ref (h.objs.size+1))/\IsPair (qI t1 t2 x y h) (h.objs.size+3) .none .none /\
  ItB t1 (qI t1 t2 x y h) h.objs.size x 0/\ItB t2 (qI t1 t2 x y h) (h.objs.size+1) y 0/\∀ b u,h.get? b=some u->(qI t1 t2 x y h).get? b=some u:=by
 have fr:∀ t a,(nB t a).isFreed=false:=λ t a=>by cases t<;>rfl
 have up:∀ (o1:Obj) (g:Heap) (n:Nat),g.objs.size=n->o1.isFreed=false->(g.push o1).get? n=some o1:=λ o1 g n e f=>by subst e;exact aS _ f
 unfold qI;generalize hn:h.objs.size=n;have z1:(h.push (nB t1 x)).objs.size=n+1:=by rw[cQ,hn]
 have z2:((h.push (nB t1 x)).push (nB t2 y)).objs.size=n+2:=by rw[cQ,z1]
 refine⟨?_,?_,?_,?_,?_,?_⟩
 ·refine up _ _ _ ?_ rfl;rw[cQ,cQ,z2]
 ·refine ai _ (ai _ (up _ _ _ ?_ rfl));rw[z2]
 ·refine ai _ (up _ _ _ ?_ rfl);rw[cQ,z2]
 ·have g:=ai (⟨.type "zip",none,.fields #[.none,.bool false,.bool false,.ref (n+2),.ref (n+3)],#[]⟩:Obj) (ai (⟨.type "tuple",none,.seq #[.none,.none] 0,#[]⟩:Obj) (ai (⟨.type "tuple",none,.seq #[.ref n,.ref (n+1)] 0,#[]⟩:Obj) (ai (nB t2 y) (up (nB t1 x) h n hn (fr _ _)))))
  cases t1 with
  | true=>exact⟨_,g,rfl,rfl⟩
  | false=>exact⟨_,g,rfl,rfl⟩
 ·have g:=ai (⟨.type "zip",none,.fields #[.none,.bool false,.bool false,.ref (n+2),.ref (n+3)],#[]⟩:Obj) (ai (⟨.type "tuple",none,.seq #[.none,.none] 0,#[]⟩:Obj) (ai (⟨.type "tuple",none,.seq #[.ref n,.ref (n+1)] 0,#[]⟩:Obj) (up (nB t2 y) _ (n+1) z1 (fr _ _))))
  cases t2 with
  | true=>exact⟨_,g,rfl,rfl⟩
  | false=>exact⟨_,g,rfl,rfl⟩
 ·exact λ b u e=>ai _ (ai _ (ai _ (ai _ (ai _ e))))
theorem Kb {ta:TA}{elts:List Expr}{kk:Nat}{ps p:Pos}(t1 t2:Bool)(hg:Gl X "zip")(hm:X.mg "zip"=none)(ha:PA X [a,b] ta)(hs:starEach [a,b] X.env=[(false,eval a X.env),(false,eval b X.env)]:=by rfl)(hs2:starEach [b] X.env=[(false,eval b X.env)]:=by rfl)
  (hv:bootBuiltins "zip"=some (.type "zip"):=by rfl) :
  PI X (.Tuple elts kk ps) (.Call (.Name "zip" p) [a,b] [] pos) (λ σ H R=>ta σ H λ vs H1=>∃ x y,vs=[.ref x,.ref y]/\(∃ xs,SqB t1 X.K H1 x xs)/\(∃ ys,SqB t2 X.K H1 y ys)/\R (Itz t1 t2 X.K x y) H1):=by
 intro pins s σ H R I h;refine Call_ (sH I hg hm hv (cU (thn (ha pos pins s σ H _ I h) λ us s1 ⟨vs,H1,I1,r1,q1⟩=>?_) (by rw[hs,hs2]) (by rw[hs2];rfl)));obtain⟨x,y,rfl,⟨xs,hx⟩,⟨ys,hy⟩,q⟩:=q1;obtain⟨u,u',rfl,ru,ru'⟩:=vals2 r1;cases ru;cases ru';obtain⟨its1,_,p1,_⟩:=I1.pM hx;obtain⟨its2,_,p2,_⟩:=I1.pM hy;refine callType_new F.called_zip (by decide) (F.typeCall_zip_2 _ _) (F.newCall_zip_2 _ _) (λ obj=>F.args_object_init_3 obj _ _) F.entry_zip_new (P9 t1 t2 x y its1.toArray its2.toArray) ⟨p1,p2,?_⟩;obtain⟨k1,k2,k3,k4,k5,k6⟩:=Ka t1 t2 x y s1.heap;show _/\_;refine⟨⟨_,k1,rfl⟩,wpAny_pyIter_zip (s:={s1 with heap:=qI t1 t2 x y s1.heap}) (z:=s1.heap.objs.size+4) k1 ?_⟩;have I2:Inv X pins σ H1 {s1 with heap:=qI t1 t2 x y s1.heap}:=I1.kept (t':=s1.toks) k6;refine⟨_,[s1.heap.objs.size+4,s1.heap.objs.size+2,s1.heap.objs.size+3,s1.heap.objs.size,s1.heap.objs.size+1],_,_,H1,rfl,I2,J9 t1 t2 x y (s1.heap.objs.size+4) (s1.heap.objs.size+2) (s1.heap.objs.size+3) s1.heap.objs.size (s1.heap.objs.size+1) (nn (by lia)) (nn (by lia)) (nn (by lia)) (nn (by lia)) (nn (by lia)) (nn (by lia)) (nn (by lia)) (nn (by lia)) (nn (by lia)) (nn (by lia)),⟨k1,k2,⟨_,_,k3⟩,k4,k5⟩,λ c hc=>?_,q⟩;have hc:s1.heap.objs.size<=c:=by
  simp only[aN,cv,or_false]at hc;rcases hc with rfl | rfl | rfl | rfl | rfl
  ·exact eS _ _
  ·exact eS _ _
  ·exact eS _ _
  ·exact ak _
  ·exact eS _ _
 exact I1.Jq hc (I1.hok.fresh hc)
theorem Qc {gs:DE->iA (List Dt)}{elts:List Expr}{kk:Nat}{ps p:Pos}(t1 t2:Bool)(hm:X.mg "zip"=none)(ha:PDs X [a,b] gs)(hg:Gl X "zip":=by rfl)(hs:starEach [a,b] X.env=[(false,eval a X.env),(false,eval b X.env)]:=by rfl)(hs2:starEach [b] X.env=[(false,eval b X.env)]:=by rfl)
  (hv:bootBuiltins "zip"=some (.type "zip"):=by rfl):PI X (.Tuple elts kk ps) (.Call (.Name "zip" p) [a,b] [] pos) (iD X.K (λ δ=>(gs δ).bind (Fd t1 t2))) :=
 (Kb t1 t2 hg hm ha hs hs2 hv).of λ σ H R hz7=>by
  obtain⟨δ,ds,S,q,k⟩:=hz7;obtain⟨x,e1,e2⟩:=iP q;match x,e2 with
  | [x,y],e2 =>
   obtain⟨xs,f1,e2⟩:=iP (show(itB t1 x).bind _=_ from e2);obtain⟨ys,f2,e2⟩:=jr e2;subst e2;refine⟨δ,_,S,e1,λ vs H1 s1 i1=>?_⟩;cases i1 with
   | cons i1 i2 =>
    cases i2 with
    | cons i2 i3 =>
     cases i3;obtain⟨c,vs1,rfl,q1,is1⟩:=Bp f1 i1;obtain⟨d,vs2,rfl,q2,is2⟩:=Bp f2 i2;refine⟨c,d,rfl,⟨_,q1⟩,⟨_,q2⟩,k _ H1 s1 λ H2 s2=>⟨λ i dd hd=>?_,⟨vs1,vs2,s2.pM q1,s2.pM q2,?_⟩⟩⟩
     ·rw[ax]at hd
      cases hz:(xs.zip ys)[i]? with
      | none=>rw[hz]at hd;cases hd
      | some pr =>rw[hz]at hd;obtain⟨pa,pb⟩:=pr;cases hd;obtain⟨h1,h2⟩:=gQ.mp hz;obtain⟨v1,g1,j1⟩:=is1.get h1;obtain⟨v2,g2,j2⟩:=is2.get h2;refine⟨⟨vs1,vs2,s2.pM q1,s2.pM q2,(ba.mp g1).1,(ba.mp g2).1⟩,?_⟩;rintro v H3 ⟨p,a1,a2,rfl,hp,rfl,r1,r2⟩;have w1:=r1 vs1 (s2.pM q1);have w2:=r2 vs2 (s2.pM q2);rw[g1]at w1;cases w1;rw[g2]at w2;cases w2;exact⟨iZ.upd hp,.tup (SqT.of iU) (.cons ((j1.ext s2).ext (iZ.upd hp)) (.cons ((j2.ext s2).ext (iZ.upd hp)) .nil))⟩
     ·have l1:=is1.length;have l2:=is2.length;simp only[ag,fA];lia
end
def GD (K:iF)(g:TG)(gg:Dt->DE->iA DE):Prop:=∀ H x d σ δ δ' (Q:St->Hp->Prop),Is K H x d->Sat K H σ δ->gg d δ=some δ'->(∀ σ',Sat K H σ' δ'->Q σ' H)->g x σ H Q
def ggN (i:Nat):Dt->DE->iA DE:=λ d δ=>some (δ.set i (some d))
def kY (i j:Nat):Dt->DE->iA DE:=λ d δ=>match d with
 | .tup [x,y]=>some ((δ.set i (some x)).set j (some y))
 | _=>none
theorem Kc {i j:Nat}{d:Dt}{δ δ':DE}(e:kY i j d δ=some δ'):∃ x y,d=.tup [x,y]/\δ'=(δ.set i (some x)).set j (some y):=by
 cases d with
 | tup l=>cases l with
  | nil=>cases e
  | cons x l=>cases l with
   | nil=>cases e
   | cons y l=>cases l with
    | nil=>exact⟨x,y,rfl,(aF e).symm⟩
    | cons _ _=>cases e
 | _=>cases e
theorem kS {K:iF}{i:Nat}:GD K (jt i) (ggN i):=λ H x d σ δ δ' Q h S e q=>by cases e;exact q _ (S.set h)
theorem j9 {K:iF}{i j:Nat}:GD K (wW K 2 (lG (jt i) (lG (jt j) wV))) (kY i j):=λ H x d σ δ δ' Q h S e q=>by
 obtain⟨d1,d2,rfl,rfl⟩:=Kc e;obtain⟨a,xs,rfl,hq,is⟩:=h.jy;cases is with
 | cons i1 i2 =>
  cases i2 with
  | cons i2 i3 =>cases i3;exact⟨a,_,rfl,hq,rfl,_,_,rfl,_,_,rfl,rfl,q _ ((S.set i1).set i2)⟩
def sr (own:List Str)(ix:List Nat)(δ:DE):DE:=own.map (λ _=>none)++ix.map λ i=>(δ[i]?).getD none
def zX (gg:Dt->DE->iA DE)(gt:DE->iA Bool)(ge:DE->iA Dt)(δc:DE):List Dt->iA (List Dt)
 | []=>some []
 | d::r=>(gg d δc).bind λ δ'=>(gt δ').bind λ b=>if b=true then (ge δ').bind λ y=>(zX gg gt ge δc r).map (y::·) else zX gg gt ge δc r
def gLC (own:List Str)(ix:List Nat)(gi:DE->iA (List Dt))(gg:Dt->DE->iA DE)(gt:DE->iA Bool)(ge:DE->iA Dt):DE->iA Dt :=
 λ δ=>(gi δ).bind λ ds=>if ds.length<=1000 then (zX gg gt ge (sr own ix δ) ds).map .lst else none
def kA:DE->iA Bool:=λ _=>some true
section
variable {X:Cx}{e a b c:Expr}{es:List Expr}{pos:Pos}{tg iter elt:Expr}{ifs:List Expr}{own fr:List Str}{ix:List Nat}{scope:Scope}{g:TG}{gg:Dt->DE->iA DE}{gi:DE->iA (List Dt)}{gt:DE->iA Bool}{ge:DE->iA Dt}
theorem lW:PF X [] (tDT X.K kA):=λ pins s σ H Q I ⟨δ,b,S,e,q⟩=>by cases e;exact Bk pins s σ H Q I (q H (iZ.refl H))
theorem sL (h:PDT X c gt):PF X [c] (tDT X.K gt):=P4 h
set_option tactic.hygienic true in
theorem Kd {K:iF}(hgd:GD K g gg)(σ:St)(H:Hp)(Q:VK)(h:tD K (gLC own ix gi gg gt ge) σ H Q):tLC own ix (iD K gi) g (tDT K gt) (tD K ge) σ H Q:=by
 obtain⟨δ,d,S,e,q⟩:=h;obtain⟨ds,e1,e⟩:=iP e;split at e
 ·rename_i hlen
  obtain⟨rs,e2,e⟩:=jr e;subst e;refine⟨δ,ds,S,e1,λ J H1 s1 ok=>?_⟩;refine⟨λ i m ys H'=>m=ds.length-i/\i<=ds.length/\iZ H1 H'/\ys.length<=i/\∃ us vs,Iss K H' ys us/\zX gg gt ge (sr own ix δ) (ds.drop i)=some vs/\us++vs=rs,⟨_,rfl,bg _,iZ.refl _,ak _,[],rs,.nil,by simpa using e2,rfl⟩,?_⟩;rintro i m ys H' ⟨rfl,hi,s2,hy,us,vs,is,e3,e4⟩;obtain⟨items,stop⟩:=ok H' s2;by_cases hlt:i<ds.length
  ·right
   have hdi:ds[i]?=some ds[i]:=by simp[hlt]
   obtain⟨go,yld⟩:=items i _ hdi;refine⟨go,by have:=vh;rw[sizeLine_eq];lia,λ x H'' hyl=>?_⟩;obtain⟨s3,ix3⟩:=yld x H'' hyl;rw[fw hlt]at e3;obtain⟨δ',f1,e3⟩:=iP (show(gg ds[i] (sr own ix δ)).bind _=_ from e3);obtain⟨k,f2,e3⟩:=iP e3;have S':Sat K H'' (kQ own ix σ) (sr own ix δ):=(S.ext ((s1.trans s2).trans s3)).comp;refine hgd H'' x ds[i] _ _ δ' _ ix3 S' f1 λ σ' Sσ=>⟨δ',k,Sσ,f2,λ H3 s4=>?_⟩;cases k with
   | true =>rw[af rfl]at e3 ⊢;obtain⟨y,f3,e3⟩:=iP e3;obtain⟨r,f4,e3⟩:=jr e3;subst e3;refine⟨δ',y,Sσ.ext s4,f3,λ v H4 s5 iv=>⟨ds.length-(i+1),by lia,rfl,hlt,((s2.trans s3).trans s4).trans s5,by simp;lia,us++[y],r,(is.ext ((s3.trans s4).trans s5)).snoc iv,f4,by rw[<-e4];simp⟩⟩
   | false =>rw[ah aI]at e3 ⊢;exact⟨ds.length-(i+1),by lia,rfl,hlt,(s2.trans s3).trans s4,by lia,us,vs,is.ext (s3.trans s4),e3,e4⟩
  ·left
   have hi:i=ds.length:=by lia
   subst hi;rw[List.drop_length]at e3;cases e3;rw[cF]at e4;subst e4;exact⟨stop,λ p hp=>q _ _ ((s1.trans s2).trans (iZ.upd hp)) (.lst iU (is.ext (iZ.upd hp)))⟩
 ·cases e
theorem r8 (hc:X.calm=true)(S:mh X scope own fr ix)(hi:PI X tg iter (iD X.K gi))(hg:∀ C s H fp,PG (X.comp (own++fr) scope C s H fp) tg g)(hgo:C2 own.length g)(hgd:GD X.K g gg)
  (ht:∀ C s H fp,PF (X.comp (own++fr) scope C s H fp) ifs (tDT X.K gt)) (he:∀ C s H fp,PE (X.comp (own++fr) scope C s H fp) elt (tD X.K ge)) (hs:∀ x,foldedSetIterable iter X.env x=pure x:=by intro _;rfl) :
  PD X (.ListComp elt [⟨tg,iter,ifs,0⟩] scope pos) (gLC own ix gi gg gt ge):=(OA hc S hi hg hgo ht he hs).of (Kd hgd)
inductive RD where
 | nx (δ:DE) | rt (d:Dt)
def UT (K:iF)(D:Ends)(H:Hp):RD->Prop
 | .nx δ=>∀ σ,Sat K H σ δ->D.nx σ H
 | .rt d=>∀ v,Is K H v d->D.rt v H
def tDS (K:iF)(g:DE->iA RD):TS:=λ D σ H=>∃ δ r,Sat K H σ δ/\g δ=some r/\∀ H',iZ H H'->UT K D H' r
variable {st:Stmt}{rest sts:List Stmt}{gs gs':DE->iA RD}{ga:DE->iA Dt}
abbrev PDS (X:Cx)(st:Stmt)(g:DE->iA RD):Prop:=PS X st (tDS X.K g)
abbrev Fe (X:Cx)(st:List Stmt)(g:DE->iA RD):Prop:=PSs X st (tDS X.K g)
def jL (g g':DE->iA RD):DE->iA RD:=λ δ=>(g δ).bind λ r=>match r with
 | .nx δ'=>g' δ'
 | .rt d=>some (.rt d)
theorem jR:Fe X [] (λ δ=>some (.nx δ)):=ou.of λ D σ H ⟨δ,r,S,e,q⟩=>by cases e;exact q H (iZ.refl H) σ S
theorem je (h1:PDS X st gs)(h2:Fe X rest gs'):Fe X (st::rest) (jL gs gs'):=(iW h1 h2).of λ D σ H hz1=>by
 obtain⟨δ,r,S,e,q⟩:=hz1;obtain⟨r1,e1,e⟩:=iP e;refine⟨δ,r1,S,e1,λ H1 s1=>?_⟩;cases r1 with
 | nx δ'=>exact λ σ' S'=>⟨δ',r,S',e,λ H2 s2=>q H2 (s1.trans s2)⟩
 | rt d=>cases e;exact q H1 s1
theorem i9 (h1:PDS X st gs):Fe X [st] gs:=jw h1
def kT:DE->iA RD:=λ δ=>some (.nx δ)
def kZ (i:Nat)(g:DE->iA Dt):DE->iA RD:=λ δ=>(g δ).map λ d=>.nx (δ.set i (some d))
theorem k8 {i:Nat}{x:Str}{pos':Pos}(hN:X.N.Nodup)(he:PD X e ga)(hi:X.N[i]?=some x:=by rfl)(hx:Loc X.env.scope x:=by trivial)(hs:swapsWith e (some (.Name x pos')) pos.line X.env=pure false:=by rfl)(hf:X.fn x=true\/X.env.scope.names.lookup x=some .local:=by trivial) :
  PDS X (.Assign [.Name x pos'] e pos) (kZ i ga):=(jC hN hi hx he hs hf).of λ D σ H hz2=>by
 obtain⟨δ,r,S,e,q⟩:=hz2;obtain⟨d,e1,e⟩:=jr e;subst e;exact⟨δ,d,S,e1,λ v H1 s1 i1=>q H1 s1 _ ((S.ext s1).set i1)⟩
theorem AB {i:Nat}{x:Str}{px spos:Pos}(hN:X.N.Nodup)(hc:X.calm=true)(S:mh X scope own fr ix)(hi:PI X tg iter (iD X.K gi))(hg:∀ C s H fp,PG (X.comp (own++fr) scope C s H fp) tg g)(hgo:C2 own.length g)(hgd:GD X.K g gg)
  (ht:∀ C s H fp,PF (X.comp (own++fr) scope C s H fp) ifs (tDT X.K gt)) (he:∀ C s H fp,PE (X.comp (own++fr) scope C s H fp) elt (tD X.K ge)) (hi':X.N[i]?=some x:=by rfl) (hx:Loc X.env.scope x:=by trivial)
  (hsw:swapsWith (.ListComp elt [⟨tg,iter,ifs,0⟩] scope pos) (some (.Name x px)) spos.line X.env=pure true:=by rfl) (hf:X.fn x=true\/X.env.scope.names.lookup x=some .local:=by trivial) (hs:∀ x,foldedSetIterable iter X.env x=pure x:=by intro _;rfl) :
  PDS X (.Assign [.Name x px] (.ListComp elt [⟨tg,iter,ifs,0⟩] scope pos) spos) (kZ i (gLC own ix gi gg gt ge)):=(JV hN hi' hx hc S hi hg hgo ht he hsw hf hs).of λ D σ H hz3=>by
 obtain⟨δ,r,S,e,q⟩:=hz3;obtain⟨d,e1,e⟩:=jr e;subst e;exact Kd hgd σ H _ ⟨δ,d,S,e1,λ v H1 s1 i1=>q H1 s1 _ ((S.ext s1).set i1)⟩
def ue (gg:Dt->DE->iA DE)(g:DE->iA Dt):DE->iA RD:=λ δ=>(g δ).bind λ d=>(gg d δ).map .nx
theorem oQ (he:PD X e ga)(hg:PG X tg g)(hgd:GD X.K g gg)(hs:swapsWithSole [tg] e pos.line X.env=pure false:=by rfl)(hw:swappedStores [tg] e X.env=pure none:=by rfl)
  (h1:(assignEach [tg] X.env).map (·.2)=[assign tg X.env]:=by rfl):PDS X (.Assign [tg] e pos) (ue gg ga):=(m6 he hg hs hw h1).of λ D σ H hz4=>by
 obtain⟨δ,r,S,e,q⟩:=hz4;obtain⟨d,e1,e⟩:=iP e;obtain⟨δ',e2,e⟩:=jr e;subst e;exact⟨δ,d,S,e1,λ v H1 s1 i1=>hgd H1 v d σ δ δ' _ i1 (S.ext s1) e2 λ σ' S'=>q H1 s1 σ' S'⟩
def jJ (g:DE->iA Dt):DE->iA RD:=λ δ=>(g δ).map .rt
theorem jm (he:PD X e ga):PDS X (.Return (some e) pos) (jJ ga):=(lI he).of λ D σ H hz5=>by obtain⟨δ,r,S,e,q⟩:=hz5;obtain⟨d,e1,e⟩:=jr e;subst e;exact⟨δ,d,S,e1,λ v H1 s1 i1=>q H1 s1 v i1⟩
def nU (g:DE->iA Dt):DE->iA RD:=λ δ=>(g δ).map λ _=>.nx δ
theorem lN (he:PD X e ga)(hs:swapsWith e none pos.line X.env=pure false:=by rfl):PDS X (.Expr e pos) (nU ga):=(rK he hs).of λ D σ H hz6=>by obtain⟨δ,r,S,e,q⟩:=hz6;obtain⟨d,e1,e⟩:=jr e;subst e;exact⟨δ,d,S,e1,λ v H1 s1 i1=>q H1 s1 σ (S.ext s1)⟩
def ng (gc:DE->iA Bool)(g g':DE->iA RD):DE->iA RD:=λ δ=>(gc δ).bind λ k=>if k=true then g δ else g' δ
theorem lH {gc:DE->iA Bool}{sa sb:List Stmt}(hc:PDT X c gc)(ha:Fe X sa gs)(hb:Fe X sb gs'):PDS X (.If c sa sb pos) (ng gc gs gs'):=(vW hc ha hb).of λ D σ H hz7=>by
 obtain⟨δ,r,S,e,q⟩:=hz7;obtain⟨k,e1,e⟩:=iP e;refine⟨δ,k,S,e1,λ H1 s1=>?_⟩;cases k with
 | true=>rw[af rfl]at e ⊢;exact⟨δ,r,S.ext s1,e,λ H2 s2=>q H2 (s1.trans s2)⟩
 | false=>rw[ah aI]at e ⊢;exact⟨δ,r,S.ext s1,e,λ H2 s2=>q H2 (s1.trans s2)⟩
def sM:DE->iA RD:=λ _=>none
theorem qJ:PDS X st sM:=λ _ _ _ _ _ _ ⟨_,_,_,e,_⟩=>by cases e
def wc (gg:Dt->DE->iA DE)(gb:DE->iA RD):DE->List Dt->iA RD
 | δ,[]=>some (.nx δ)
 | δ,d::r=>(gg d δ).bind λ δ'=>(gb δ').bind λ x=>match x with
  | .nx δ''=>wc gg gb δ'' r
  | .rt v=>some (.rt v)
def Il (gi:DE->iA (List Dt))(gg:Dt->DE->iA DE)(gb:DE->iA RD):DE->iA RD:=λ δ=>(gi δ).bind λ ds=>wc gg gb δ ds
theorem Ke {body:List Stmt}(hp:PassesOwn (model X.prog X.w) X.A X.env X.xe)(hc:X.calm=true)(hi:PI X tg iter (iD X.K gi))(hg:PG X tg g)(hgd:GD X.K g gg)(hb:Fe X body gs)
  (hs:∀ x,foldedSetIterable iter X.env x=pure x:=by intro _;rfl):PDS X (.For tg iter body [] pos) (Il gi gg gs):=(mI hp hc hi hg hb hs).of λ D σ H hz8=>by
 obtain⟨δ,r,S,e,q⟩:=hz8;obtain⟨ds,e1,e⟩:=iP e;refine⟨δ,ds,S,e1,λ J H1 s1 ok=>?_⟩;refine⟨λ i m σ' H'=>m=ds.length-i/\i<=ds.length/\iZ H1 H'/\∃ δ',Sat X.K H' σ' δ'/\wc gg gs δ' (ds.drop i)=some r,⟨_,rfl,bg _,iZ.refl _,δ,S.ext s1,by simpa using e⟩,?_⟩;rintro i m σ' H' ⟨rfl,hi,s2,δ',S',e3⟩;obtain⟨items,stop⟩:=ok H' s2;by_cases hlt:i<ds.length
 ·right
  have hdi:ds[i]?=some ds[i]:=by simp[hlt]
  obtain⟨go,yld⟩:=items i _ hdi;rw[fw hlt]at e3;obtain⟨δ1,f1,e3⟩:=iP (show(gg ds[i] δ').bind _=_ from e3);obtain⟨x,f2,e3⟩:=iP e3;refine⟨go,λ σ2 H2=>∃ δ2,x=.nx δ2/\iZ H1 H2/\Sat X.K H2 σ2 δ2,?_,λ v H'' hyl=>?_⟩
  ·rintro σ2 H2 ⟨δ2,rfl,s5,S5⟩;exact⟨_,by lia,rfl,hlt,s5,δ2,S5,e3⟩
  ·obtain⟨s3,iv⟩:=yld v H'' hyl
   refine hgd H'' v ds[i] σ' δ' δ1 _ iv (S'.ext s3) f1 λ σ2 S2=>⟨δ1,x,S2,f2,λ H3 s4=>?_⟩;cases x with
   | nx δ2=>exact λ σ3 S3=>⟨δ2,rfl,(s2.trans s3).trans s4,S3⟩
   | rt d=>cases e3;exact q H3 (((s1.trans s2).trans s3).trans s4)
 ·left
  have hi:i=ds.length:=by lia
  subst hi;rw[List.drop_length]at e3;cases e3;exact⟨stop,q H' (s1.trans s2) σ' S'⟩
def Sj (i j:Nat)(g:DE->iA (List Dt)):DE->iA RD:=λ δ=>(g δ).bind λ ds=>match ds with
 | [x,y]=>some (.nx ((δ.set i (some x)).set j (some y)))
 | _=>none
theorem mr {i j:Nat}{x y:Str}{gl:DE->iA (List Dt)}{px py pt:Pos}{kt k2 pt2}(hc:X.calm=true)(hN:X.N.Nodup)(ha:PDs X [a,b] gl)(hij:i≠j:=by decide)(hi:X.N[i]?=some x:=by rfl)(hj:X.N[j]?=some y:=by rfl)
  (hx:X.env.scope.names.lookup x=some .local:=by rfl) (hy:X.env.scope.names.lookup y=some .local:=by rfl)
  (hw:swappedStores [.Tuple [.Name x px,.Name y py] kt pt] (.Tuple [a,b] k2 pt2) X.env=pure (some [x,y]):=by rfl)
  (hs:swapsWithSole [.Tuple [.Name x px,.Name y py] kt pt] (.Tuple [a,b] k2 pt2) pos.line X.env=pure false:=by rfl) :
  PDS X (.Assign [.Tuple [.Name x px,.Name y py] kt pt] (.Tuple [a,b] k2 pt2) pos) (Sj i j gl):=(Pl hc hN hi hj hij hx hy ha hw hs).of λ D σ H hz9=>by
 obtain⟨δ,r,S,e,q⟩:=hz9;obtain⟨ds,e1,e⟩:=iP e;match ds,e with
 | [d1,d2],e =>
  cases e;refine⟨δ,_,S,e1,λ vs H1 s1 i1=>?_⟩;cases i1 with
  | cons i1 i2 =>
   cases i2 with
   | cons i2 i3 =>cases i3;exact⟨_,_,rfl,q H1 s1 _ (((S.ext s1).set i1).set i2)⟩
end
def Qd:RD->Dt
 | .rt d=>d
 | .nx _=>.non
def mK (N:List Str)(ds:List Dt):DE:=ds.map some++List.replicate (N.length-ds.length) none
section
variable {P:Program}{w:World}{K:iF}{mg:iq}{base:Heap}
theorem Fun.okD {x qual:Str}{st:Stmt}{f:Addr}{fd:FuncData}{N ps:List Str}{k:Nat}{fD:List Dt->iA Dt}{g:DE->iA RD}(F:Fun K x qual st f fd)(S:jg N ps (iX st))
  (hbody:∀ (cdv:iG) (A:Around) (outer:List Env) (s:iH) (H:Hp) (E:XK),lV k (A.deeper (envOfC qual (iX st) s.heap.objs.size f cdv)) ->
   PSs (CJ CX0 P w K mg base N qual (iX st) f cdv A outer s H E).nox (ow st) (tDS K g))
  (hg:∀ ds d,ds.length=ps.length->fD ds=some d->∃ r,g (mK N ds)=some r/\Qd r=d):vk P w K mg base CX0 (k+1) f fd ps (spD K ps.length fD):=by
 refine F.ok S (λ vs H Q E h=>?_) (λ cdv A outer s H vs Q E hr h=>?_)
 ·obtain⟨ds,d,hl,is,_⟩:=h;rw[is.length,hl]
 ·obtain⟨ds,d,hl,is,e,q⟩:=h
  obtain⟨r,e1,e2⟩:=hg ds d hl e;refine⟨_,hbody cdv A outer s H E hr,mK N ds,r,is.start,e1,λ H' s'=>?_⟩;cases r with
  | nx δ=>subst e2;exact λ σ _=>q _ H' s' .non
  | rt d'=>subst e2;exact λ v iv=>q v H' s' iv
end
section
variable {X:Cx}{e a b c:Expr}{es:List Expr}{pos:Pos}
theorem opD {f:iG->iG->Sem iG}{r:R2}{fD:Dt->Dt->iA Dt}(h:OpR X f r)(w:∀ x y H Q dx dy d,Is X.K H x dx->Is X.K H y dy->fD dx dy=some d->(∀ v H',iZ H H'->Is X.K H' v d->Q v H')->r x y H Q):OpR X f (rD X.K fD) :=
 λ pins s σ H x y v u Q I rx ry ⟨dx,dy,d,i1,i2,e,q⟩=>h pins s σ H x y v u Q I rx ry (w x y H Q dx dy d i1 i2 e q)
theorem yp {f:iG}{r:List V->Hp->VK->Prop}{fD:List Dt->iA Dt}(h:kz X f r)(w:∀ xs H Q ds d,Iss X.K H xs ds->fD ds=some d->(∀ v H',iZ H H'->Is X.K H' v d->Q v H')->r xs H Q):kz X f (cD X.K fD) :=
 λ pins s σ H xs us Q I rx ⟨ds,d,i1,e,q⟩=>h pins s σ H xs us Q I rx (w xs H Q ds d i1 e q)
def dI (g:Int->Int->Int):Dt->Dt->iA Dt
 | .int i,.int j=>some (.int (g i j))
 | _,_=>none
def dIB (g:Int->Int->Bool):Dt->Dt->iA Dt
 | .int i,.int j=>some (.bl (g i j))
 | _,_=>none
def bd (i:Int):Prop:=i.natAbs<2 ^ 4000
instance (i:Int):Decidable (bd i):=inferInstanceAs (Decidable (i.natAbs<2 ^ 4000))
def dIC (C:Int->Int->Prop)[∀ i j,Decidable (C i j)](g:Int->Int->Int):Dt->Dt->iA Dt
 | .int i,.int j=>if C i j then some (.int (g i j)) else none
 | _,_=>none
theorem Qf {g:Int->Int->Int}{x y d:Dt}(h:dI g x y=some d):∃ i j,x=.int i/\y=.int j/\d=.int (g i j):=by
 cases x with
 | int i=>cases y with
  | int j=>exact⟨_,_,rfl,rfl,(aF h).symm⟩
  | _=>cases h
 | _=>cases h
theorem MJ {g:Int->Int->Bool}{x y d:Dt}(h:dIB g x y=some d):∃ i j,x=.int i/\y=.int j/\d=.bl (g i j):=by
 cases x with
 | int i=>cases y with
  | int j=>exact⟨_,_,rfl,rfl,(aF h).symm⟩
  | _=>cases h
 | _=>cases h
theorem MK {C:Int->Int->Prop}[∀ i j,Decidable (C i j)]{g:Int->Int->Int}{x y d:Dt}(h:dIC C g x y=some d):∃ i j,x=.int i/\y=.int j/\C i j/\d=.int (g i j):=by
 cases x with
 | int i=>cases y with
  | int j =>
   have h:(if C i j then some (Dt.int (g i j)) else none)=some d:=h;by_cases hc:C i j
   ·rw[af hc]at h;exact⟨_,_,rfl,rfl,hc,(aF h).symm⟩
   ·rw[ah hc]at h;cases h
  | _=>cases h
 | _=>cases h
theorem oI0 {f:iG->iG->Sem iG}{g:Int->Int->Int}(h:OpR X f (rI0 λ i j=>.int (g i j))):OpR X f (rD X.K (dI g)):=opD h λ x y H Q dx dy d i1 i2 e q=>by obtain⟨i,j,rfl,rfl,rfl⟩:=Qf e;exact⟨i,j,i1.int_inv,i2.int_inv,q _ H (iZ.refl H) (.int _)⟩
theorem oB0 {f:iG->iG->Sem iG}{g:Int->Int->Bool}(h:OpR X f (rI0 λ i j=>.bl (g i j))):OpR X f (rD X.K (dIB g)):=opD h λ x y H Q dx dy d i1 i2 e q=>by obtain⟨i,j,rfl,rfl,rfl⟩:=MJ e;exact⟨i,j,i1.int_inv,i2.int_inv,q _ H (iZ.refl H) (.bl _)⟩
theorem oIC {f:iG->iG->Sem iG}{C C':Int->Int->Prop}[∀ i j,Decidable (C i j)]{g:Int->Int->Int}(h:OpR X f (rI C' λ i j=>.int (g i j)))(w:∀ i j,C i j->C' i j):OpR X f (rD X.K (dIC C g)):=opD h λ x y H Q dx dy d i1 i2 e q=>by obtain⟨i,j,rfl,rfl,hc,rfl⟩:=MK e;exact⟨i,j,i1.int_inv,i2.int_inv,w i j hc,q _ H (iZ.refl H) (.int _)⟩
theorem GG:OpR X (binaryOp .Add) (rD X.K (dI (·+·))):=oI0 m7
theorem GI:OpR X (binaryOp .Sub) (rD X.K (dI (·-·))):=oI0 ve
theorem Kf:OpR X (compareOp .Lt) (rD X.K (dIB λ i j=>decide (i<j))):=oB0 Oe
theorem Qg:OpR X (compareOp .LtE) (rD X.K (dIB λ i j=>decide (i<=j))):=oB0 RS
theorem Sk:OpR X (compareOp .GtE) (rD X.K (dIB λ i j=>decide (j<=i))):=oB0 Oh
theorem GJ {i:Int}(h:bd i):Builtin.Int.intBits i<=2 ^ 20:=bf (PyProof.Rows.intBits_le h) (by decide)
theorem Qh {i:Int}(h:bd i):i.natAbs.log2<9000:=by
 by_cases h0:i.natAbs=0
 ·rw[h0];decide +kernel
 ·exact(Nat.log2_lt h0).mpr (aJ h (bN (by decide) (by decide)))
abbrev mL:=dIC (λ i j=>bd i/\bd j) (·*·)
abbrev Im:=dIC (λ _ j=>0<j/\bd j) (· / ·)
abbrev UU:=dIC (λ _ j=>0<j) (· % ·)
theorem lL:OpR X (binaryOp .Mult) (rD X.K mL):=oIC (C':=IntMulOk) (opI λ _ _ _ _ _ _ _ hc q=>mul_int q hc) λ i j h=>IntMulOk.of_bits (GJ h.1) (GJ h.2)
theorem AD:OpR X (binaryOp .FloorDiv) (rD X.K Im):=oIC (C':=λ i j=>0<j/\bd j) (opI λ i j _ _ _ _ _ hc q=>by have h1:(0:Int)<j:=hc.1;exact floordiv_int (by lia) (by rw[gJ i (by lia)];exact q) (.inl (PyProof.noPylong_of_log2 (Qh hc.2)))) λ i j h=>h
theorem Kg:OpR X (binaryOp .Mod) (rD X.K UU):=oIC vf λ i j h=>h
mutual
inductive Sh:Dt->Dt->Prop
 | int (i j:Int):Sh (.int i) (.int j)
 | bl (i j:Bool):Sh (.bl i) (.bl j)
 | str (i j:Str):Sh (.str i) (.str j)
 | tup {ds es:List Dt}:Shs ds es->Sh (.tup ds) (.tup es)
inductive Shs:List Dt->List Dt->Prop
 | nil (es:List Dt):Shs [] es
 | Wa (es:List Dt):Shs es []
 | cons {d e:Dt} {ds es:List Dt}:Sh d e->Shs ds es->Shs (d::ds) (e::es)
end
mutual
def dEq:Dt->Dt->Bool
 | .int i,.int j=>i==j
 | .bl i,.bl j=>i==j
 | .str i,.str j=>i==j
 | .tup ds,.tup es=>o8 ds es
 | _,_=>false
def o8:List Dt->List Dt->Bool
 | [],[]=>true
 | d::ds,e::es=>dEq d e&&o8 ds es
 | _,_=>false
end
def sh1:Dt->Dt->Bool
 | .int _,.int _=>true
 | .bl _,.bl _=>true
 | .str _,.str _=>true
 | _,_=>false
def C8:List Dt->List Dt->Bool
 | d::ds,e::es=>sh1 d e&&C8 ds es
 | _,_=>true
def sh2:Dt->Dt->Bool
 | .tup ds,.tup es=>C8 ds es
 | d,e=>sh1 d e
def Bq:List Dt->List Dt->Bool
 | d::ds,e::es=>sh2 d e&&Bq ds es
 | _,_=>true
def sh3:Dt->Dt->Bool
 | .tup ds,.tup es=>Bq ds es
 | d,e=>sh1 d e
theorem zY (e:Nat->Bool):∀ (n:Nat),(List.range (n+1)).all e=(e 0&&(List.range n).all λ i=>e (i+1)):=λ n=>by rw[List.range_succ_eq_map,List.all_cons,gH];rfl
def eAt (ds es:List Dt)(j:Nat):Bool:=match ds[j]?,es[j]? with
 | some d,some e=>dEq d e
 | _,_=>false
theorem GK:∀ (ds es:List Dt),((List.range (min ds.length es.length)).all (eAt ds es)&&ds.length==es.length)=o8 ds es
 | [],[]=>rfl
 | [],e::es=>by simp[o8]
 | d::ds,[]=>by simp[o8]
 | d::ds,e::es=>by
  have ih:=GK ds es;rw[o8,<-ih];simp only[aQ];rw[Nat.succ_min_succ,zY];have:(λ i=>eAt (d::ds) (e::es) (i+1))=eAt ds es:=by funext i;simp[eAt]
  rw[this];have h0:eAt (d::ds) (e::es) 0=dEq d e:=rfl;rw[h0,Bool.and_assoc];congr 2;simp
variable {pins:iJ}{σ:St}{H:Hp}{s:iH}
theorem Iss.vals {xs:List V}{ds:List Dt}(I:Inv X pins σ H s)(is:Iss X.K H xs ds){its:List iG}(r:Vals xs its){j:Nat}{d:Dt}(h:ds[j]?=some d):∃ v u,its[j]?=some u/\RelV v u/\Is X.K H v d:=by obtain⟨v,hv,iv⟩:=is.get h;obtain⟨u,hu,ru⟩:=r.get hv;exact⟨v,u,hu,ru,iv⟩
end
open PySem.SeqAt
section
variable {X:Cx}{e a b c:Expr}{es:List Expr}{pos:Pos}{pins:iJ}{σ:St}{H:Hp}{s:iH}
theorem GL {i j:Int}:dEq (.int i) (.int j)=(i==j):=by simp[dEq]
theorem Kh {i j:Bool}:dEq (.bl i) (.bl j)=(i==j):=by simp[dEq]
theorem GN {i j:Str}:dEq (.str i) (.str j)=(i==j):=by simp[dEq]
theorem uf {i j:List Dt}:dEq (.tup i) (.tup j)=o8 i j:=by simp[dEq]
theorem OE {A:Around}{d d':Dt}{v v':V}{u u':iG}(sh:sh1 d d'=true)(i:Is X.K H v d)(i':Is X.K H v' d')(r:RelV v u)(r':RelV v' u'):EqAt A s u u' (dEq d d'):=by
 cases d<;>cases d'<;>simp[sh1]at sh
 ·rw[i.lJ]at r;rw[i'.lJ]at r';cases r;cases r';rw[Kh];exact EqAt.bool_bool _ _
 ·rw[i.int_inv]at r;rw[i'.int_inv]at r';obtain⟨t,rfl⟩:=r;obtain⟨t',rfl⟩:=r';rw[GL];exact EqAt.int_int _ _ _ _
 ·rw[i.str_inv]at r;rw[i'.str_inv]at r';obtain⟨t,rfl⟩:=r;obtain⟨t',rfl⟩:=r';rw[GN];exact EqAt.str_str _ _ _ _
theorem Sl {d d':Dt}{v:V}(sh:sh1 d d'=true)(i:Is X.K H v d)(i':Is X.K H v d'):dEq d d'=true:=by
 cases d<;>cases d'<;>simp[sh1]at sh
 ·have:=i.lJ.symm.trans i'.lJ;cases this;simp[dEq]
 ·have:=i.int_inv.symm.trans i'.int_inv;cases this;simp[dEq]
 ·have:=i.str_inv.symm.trans i'.str_inv;cases this;simp[dEq]
theorem Ki:∀ {ds es:List Dt} {vs:List V},C8 ds es=true->Iss X.K H vs ds->Iss X.K H vs es->o8 ds es=true
 | [],[],_,_,_,_=>by simp[o8]
 | [],e::es,_,_,i,j=>by cases i;cases j
 | d::ds,[],_,_,i,j=>by cases j;cases i
 | d::ds,e::es,_,h,i,j=>by
  cases i with
  | cons i1 i2 =>
   cases j with
   | cons j1 j2 =>rw[C8,cS]at h;rw[o8,Sl h.1 i1 j1,Ki h.2 i2 j2];rfl
theorem C9:∀ {ds es:List Dt},C8 ds es=true->∀ {j:Nat} {d e:Dt},ds[j]?=some d->es[j]?=some e->sh1 d e=true
 | [],_,_,j,d,e,h,_=>by simp at h
 | _::_,[],_,j,d,e,_,h=>by simp at h
 | d::ds,e::es,h,0,_,_,h1,h2=>by rw[C8,cS]at h;simp at h1 h2;subst h1;subst h2;exact h.1
 | d::ds,e::es,h,j+1,_,_,h1,h2=>by rw[C8,cS]at h;exact C9 h.2 (by simpa using h1) (by simpa using h2)
theorem yq:∀ {ds es:List Dt},Bq ds es=true->∀ {j:Nat} {d e:Dt},ds[j]?=some d->es[j]?=some e->sh2 d e=true
 | [],_,_,j,d,e,h,_=>by simp at h
 | _::_,[],_,j,d,e,_,h=>by simp at h
 | d::ds,e::es,h,0,_,_,h1,h2=>by rw[Bq,cS]at h;simp at h1 h2;subst h1;subst h2;exact h.1
 | d::ds,e::es,h,j+1,_,_,h1,h2=>by rw[Bq,cS]at h;exact yq h.2 (by simpa using h1) (by simpa using h2)
theorem Br {A:Around}{ds es:List Dt}{xs ys:List V}{its its':List iG}(is:Iss X.K H xs ds)(js:Iss X.K H ys es)(r:Vals xs its)(r':Vals ys its')
  (h:∀ {j:Nat} {d e:Dt} {v v':V} {u u':iG},ds[j]?=some d->es[j]?=some e->Is X.K H v d->Is X.K H v' e->RelV v u->RelV v' u'->EqAt A s u u' (dEq d e)) :
  ∀ j (h1:j<its.toArray.size) (h2:j<its'.toArray.size),EqAt A s its.toArray[j] its'.toArray[j] (eAt ds es j):=by
 intro j h1 h2;have l1:=is.length;have l2:=js.length;have l3:=r.length;have l4:=r'.length;simp only[aM]at h1 h2;have hd:ds[j]?=some (ds[j]'(by lia)):=by simp[show j<ds.length by lia]
 have he:es[j]?=some (es[j]'(by lia)):=by simp[show j<es.length by lia]
 obtain⟨v,hv,iv⟩:=is.get hd;obtain⟨v',hv',iv'⟩:=js.get he;obtain⟨u,hu,ru⟩:=r.get hv;obtain⟨u',hu',ru'⟩:=r'.get hv';have e1:its[j]=u:=by rw[aC h1]at hu;exact aF hu
 have e2:its'[j]=u':=by rw[aC h2]at hu';exact aF hu'
 have e3:eAt ds es j=dEq (ds[j]'(by lia)) (es[j]'(by lia)):=by unfold eAt;rw[hd,he]
 rw[e3];simp only[List.getElem_toArray,e1,e2];exact h hd he iv iv' ru ru'
theorem yt {ds es:List Dt}{xs ys:List V}{its its':List iG}(is:Iss X.K H xs ds)(js:Iss X.K H ys es)(r:Vals xs its)(r':Vals ys its') :
  ((List.range (min its.toArray.size its'.toArray.size)).all (eAt ds es)&&its.toArray.size==its'.toArray.size)=o8 ds es:=by
 rw[<-GK,aM,aM,<-r.length,<-r'.length,is.length,js.length]
theorem ML {d d':Dt}(sh:sh2 d d'=true)(ht:¬ ∃ ds es,d=.tup ds/\d'=.tup es):sh1 d d'=true:=by
 cases d with
 | tup ds=>cases d' with
  | tup es=>exact(ht ⟨_,_,rfl,rfl⟩).elim
  | _=>exact sh
 | _=>exact sh
theorem GO {d d':Dt}(sh:sh3 d d'=true)(ht:¬ ∃ ds es,d=.tup ds/\d'=.tup es):sh1 d d'=true:=by
 cases d with
 | tup ds=>cases d' with
  | tup es=>exact(ht ⟨_,_,rfl,rfl⟩).elim
  | _=>exact sh
 | _=>exact sh
theorem GP {A:Around}(I:Inv X pins σ H s)(hu:A.units<cLine){d d':Dt}{v v':V}{u u':iG}(sh:sh2 d d'=true)(i:Is X.K H v d)(i':Is X.K H v' d')(r:RelV v u)(r':RelV v' u'):EqAt A s u u' (dEq d d'):=by
 by_cases ht:∃ ds es,d=.tup ds/\d'=.tup es
 ·obtain⟨ds,es,rfl,rfl⟩:=ht
  obtain⟨p,xs,rfl,hp,is⟩:=i.jy;obtain⟨q,ys,rfl,hq,js⟩:=i'.jy;cases r;cases r';have sh:C8 ds es=true:=sh;rw[uf];by_cases hpq:p=q
  ·subst hpq;have:=I.vb hp hq;subst this;rw[Ki sh is js];exact EqAt.same _
  ·obtain⟨its,rv,t1,_⟩:=I.tuple hp
   obtain⟨its',rv',t2,_⟩:=I.tuple hq;refine EqAt.of_refs hpq ?_;have:=RcAt.tuples (A:=A) (s:=s) (l:=p) (b:=q) (items:=its.toArray) (items2:=its'.toArray) (e:=eAt ds es) t1 t2 hu
    (Br is js rv rv' λ h1 h2 i1 i2 r1 r2=>OE (C9 sh h1 h2) i1 i2 r1 r2)
   rw[yt is js rv rv']at this;exact this
 ·have sh:=ML sh ht;exact OE sh i i' r r'
def kx:Dt->Dt->iA Dt:=λ d d'=>if sh3 d d'=true then some (.bl (dEq d d')) else none
def mv:Dt->Dt->iA Dt:=λ d d'=>if sh3 d d'=true then some (.bl (!dEq d d')) else none
theorem Kj {d d' r:Dt}(h:kx d d'=some r):sh3 d d'=true/\r=.bl (dEq d d'):=by
 unfold kx at h;split at h
 ·cases h;exact⟨by assumption,rfl⟩
 ·cases h
theorem Kk {d d' r:Dt}(h:mv d d'=some r):sh3 d d'=true/\r=.bl (!dEq d d'):=by
 unfold mv at h;split at h
 ·cases h;exact⟨by assumption,rfl⟩
 ·cases h
theorem GQ {d d':Dt}{v v':V}(sh:sh1 d d'=true)(i:Is X.K H v d)(i':Is X.K H v' d'):Pq v v'=true/\decide (v=v')=dEq d d':=by
 cases d with
 | bl b=>cases d' with
  | bl c=>rw[i.lJ,i'.lJ,Kh];exact⟨rfl,EI⟩
  | _=>cases sh
 | int b=>cases d' with
  | int c=>rw[i.int_inv,i'.int_inv,GL];exact⟨rfl,A6⟩
  | _=>cases sh
 | str b=>cases d' with
  | str c=>rw[i.str_inv,i'.str_inv,GN];exact⟨rfl,A7⟩
  | _=>cases sh
 | _=>cases sh
theorem ug (hu:X.A.units+2<cLine):OpR X (compareOp .Eq) (rD X.K kx):=by
 intro pins s σ H x y v u Q I rx ry ⟨d,d',r,i,i',e,q⟩;obtain⟨sh,rfl⟩:=Kj e;by_cases ht:∃ ds es,d=.tup ds/\d'=.tup es
 ·obtain⟨ds,es,rfl,rfl⟩:=ht;obtain⟨p,xs,rfl,hp,is⟩:=i.jy;obtain⟨p',ys,rfl,hq,js⟩:=i'.jy;cases rx;cases ry;have sh:Bq ds es=true:=sh;obtain⟨its,rv,t1,_⟩:=I.tuple hp;obtain⟨its',rv',t2,_⟩:=I.tuple hq;refine eq_tupleAt (e:=eAt ds es) t1 t2 (by lia) (Br is js rv rv' λ h1 h2 i1 i2 r1 r2=>GP I (by show X.A.units+1<cLine;lia) (yq sh h1 h2) i1 i2 r1 r2) ?_;rw[yt is js rv rv'];exact⟨.bl _,H,I,rfl,q _ H (iZ.refl H) (by rw[uf];exact .bl _)⟩
 ·have sh:=GO sh ht;obtain⟨s1,s2⟩:=GQ sh i i';exact Oc pins s σ H x y v u Q I rx ry ⟨s1,by rw[s2];exact q _ H (iZ.refl H) (.bl _)⟩
theorem r9 (hu:X.A.units+2<cLine):OpR X (compareOp .NotEq) (rD X.K mv):=by
 intro pins s σ H x y v u Q I rx ry ⟨d,d',r,i,i',e,q⟩;obtain⟨sh,rfl⟩:=Kk e;by_cases ht:∃ ds es,d=.tup ds/\d'=.tup es
 ·obtain⟨ds,es,rfl,rfl⟩:=ht;obtain⟨p,xs,rfl,hp,is⟩:=i.jy;obtain⟨p',ys,rfl,hq,js⟩:=i'.jy;cases rx;cases ry;have sh:Bq ds es=true:=sh;obtain⟨its,rv,t1,_⟩:=I.tuple hp;obtain⟨its',rv',t2,_⟩:=I.tuple hq;have:=RcNeAt.tuples (A:=X.A) (s:=s) (l:=p) (b:=p') (items:=its.toArray) (items2:=its'.toArray) (e:=eAt ds es) t1 t2 (by lia) (Br is js rv rv' λ h1 h2 i1 i2 r1 r2=>GP I (by show X.A.units+1<cLine;lia) (yq sh h1 h2) i1 i2 r1 r2);rw[yt is js rv rv']at this;exact this X.prog X.w X.xe _ ⟨.bl _,H,I,rfl,q _ H (iZ.refl H) (by rw[uf];exact .bl _)⟩
 ·have sh:=GO sh ht;obtain⟨s1,s2⟩:=GQ sh i i';exact Od pins s σ H x y v u Q I rx ry ⟨s1,by rw[s2];exact q _ H (iZ.refl H) (.bl _)⟩
def UW:Dt->Dt->iA Dt
 | .bl i,.bl j=>some (.bl (i==j))
 | _,_=>none
def C_:Dt->Dt->iA Dt
 | .bl i,.bl j=>some (.bl (i != j))
 | _,_=>none
theorem Io {x y d:Dt}(h:C_ x y=some d):∃ i j,x=.bl i/\y=.bl j/\d=.bl (i != j):=by
 cases x with
 | bl i=>cases y with
  | bl j=>exact⟨_,_,rfl,rfl,(aF h).symm⟩
  | _=>cases h
 | _=>cases h
theorem Kl:OpR X (compareOp .IsNot) (rD X.K C_):=by intro pins s σ H x y v u Q I rx ry ⟨d,d',r,i,i',e,q⟩;obtain⟨b,c,rfl,rfl,rfl⟩:=Io e;rw[i.lJ]at rx;rw[i'.lJ]at ry;cases rx;cases ry;exact isnot_bool ⟨.bl _,H,I,rfl,q _ H (iZ.refl H) (.bl _)⟩
def zZ:Dt->iA Int
 | .int i=>some i
 | _=>none
def kU:List Dt->iA (List Int)
 | []=>some []
 | d::ds=>(zZ d).bind λ i=>(kU ds).map (i::·)
theorem o9 {d:Dt}{i:Int}(h:zZ d=some i):d=.int i:=by cases d<;>simp[zZ]at h;rw[h]
theorem lY:∀ {ds:List Dt} {l:List Int},kU ds=some l->ds=l.map .int
 | [],l,h=>by cases h;rfl
 | d::ds,l,h=>by obtain⟨i,e1,h⟩:=iP h;obtain⟨r,e2,h⟩:=jr h;subst h;rw[o9 e1,lY e2];rfl
@[simp] theorem o_ (l:List Int):kU (l.map .int)=some l:=by
 induction l with
 | nil=>rfl
 | cons i r ih=>show(some i).bind (λ i=>(kU (r.map .int)).map (i::·))=_;rw[ih];rfl
def Km:Dt->Dt->iA Dt
 | .tup ds,.tup es=>(kU ds).bind λ ns=>(kU es).map λ ms=>.bl (HT.lexLt ns ms)
 | _,_=>none
theorem Kn {x y d:Dt}(e:Km x y=some d):∃ ns ms:List Int,x=.tup (ns.map .int)/\y=.tup (ms.map .int)/\d=.bl (HT.lexLt ns ms):=by
 cases x with
 | tup ds=>cases y with
  | tup es =>obtain⟨ns,e1,e⟩:=iP (show(kU ds).bind _=_ from e);obtain⟨ms,e2,e⟩:=jr e;exact⟨ns,ms,by rw[lY e1],by rw[lY e2],e.symm⟩
  | _=>cases e
 | _=>cases e
theorem Sm (hu:X.A.units<cLine):OpR X (compareOp .Lt) (rD X.K Km):=opD (Pz hu) λ x y H Q dx dy d i1 i2 e q=>by obtain⟨ns,ms,rfl,rfl,rfl⟩:=Kn e;obtain⟨a,xs,rfl,ha,is⟩:=i1.jy;obtain⟨b,ys,rfl,hb,js⟩:=i2.jy;rw[is.ints]at ha;rw[js.ints]at hb;exact⟨a,b,ns,ms,rfl,rfl,ha,hb,q _ H (iZ.refl H) (.bl _)⟩
end
section
variable {X:Cx}{e a b c:Expr}{es:List Expr}{pos:Pos}{pins:iJ}{σ:St}{H:Hp}{s:iH}
def dIx:Dt->Dt->iA Dt
 | .tup ds,.int i=>atI ds i
 | .lst ds,.int i=>atI ds i
 | _,_=>none
theorem Iss.atI {K:iF}{xs:List V}{ds:List Dt}{i:Int}{d:Dt}(is:Iss K H xs ds)(h:atI ds i=some d):∃ v,L2.atI xs i=some v/\Is K H v d:=by unfold L2.atI at h ⊢;obtain⟨j,e1,e2⟩:=iP h;obtain⟨v,hv,iv⟩:=is.get e2;exact⟨v,by rw[is.length,e1];exact hv,iv⟩
theorem MN {d d' r:Dt}(e:dIx d d'=some r):∃ l k,(d=.tup l\/d=.lst l)/\d'=.int k/\L2.atI l k=some r:=by
 cases d with
 | tup l=>cases d' with
  | int k=>exact⟨l,k,.inl rfl,rfl,e⟩
  | _=>cases e
 | lst l=>cases d' with
  | int k=>exact⟨l,k,.inr rfl,rfl,e⟩
  | _=>cases e
 | _=>cases e
theorem UX:IxR X (rD X.K dIx):=by
 intro value slice pins s σ H x y v u Q I rx ry ⟨d,d',r,i,i',e,q⟩ hs;obtain⟨l,k,hd,rfl,e⟩:=MN e;rcases hd with rfl | rfl
 ·obtain⟨p,xs,rfl,hp,is⟩:=i.jy;obtain⟨w,hw,iw⟩:=is.atI e;exact pJ value slice pins s σ H _ y v u Q I rx ry ⟨p,xs,_,w,rfl,i'.int_inv,hp,hw,q _ H (iZ.refl H) iw⟩ hs
 ·obtain⟨p,xs,rfl,hp,is⟩:=i.lst_inv;obtain⟨w,hw,iw⟩:=is.atI e;exact kG value slice pins s σ H _ y v u Q I rx ry ⟨p,xs,_,w,rfl,i'.int_inv,SqL.of hp,hw,q _ H (iZ.refl H) iw⟩ hs
theorem jA {ga gb:DE->iA Dt}(ha:PD X a ga)(hb:PD X b gb)(hs:Gk b:=by exact λ _ _=>rfl):PD X (.Subscript a b pos) (iY dIx ga gb):=(kW UX ha hb hs).of Bm
def Dc:Dt->iA Dt
 | .tup (_::ds)=>some (.tup ds)
 | _=>none
theorem Ip {x d:Dt}(e:Dc x=some d):∃ d0 ds,x=.tup (d0::ds)/\d=.tup ds:=by
 cases x with
 | tup l=>cases l with
  | nil=>cases e
  | cons d0 ds=>exact⟨_,_,rfl,(aF e).symm⟩
 | _=>cases e
theorem Iq {x:V}{xs:List V}:zS (x::xs) (some 1) none=xs:=by
 unfold zS;have e1:HT.sIx (x::xs).length 0 (some 1)=1:=by have:=HT.A8 (x::xs).length 0 1;rw[show((1:Nat):Int)=1 from rfl]at this;rw[this];simp
 rw[e1,HT.CL];simp
theorem Qi {ga:DE->iA Dt}{j:Nat}{p p2:Pos}(ha:PD X a ga):PD X (.Subscript a (.Slice (some (.Constant (.int 1) j p)) none none p2) pos) (λ δ=>(ga δ).bind Dc) :=
 (CM Py ha (Gh (jd (i:=1))) Gg).of λ σ H Q hz1=>by
  obtain⟨δ,d,S,e,q⟩:=hz1;obtain⟨x,e1,e2⟩:=iP e;obtain⟨d0,ds,rfl,rfl⟩:=Ip e2;refine⟨δ,_,S,e1,λ v H1 s1 i1=>?_⟩;obtain⟨p,xs,rfl,hp,is⟩:=i1.jy;cases is with
  | cons i1 i2 =>
   refine⟨1,rfl,p,_,rfl,hp,?_,λ p' hp'=>?_⟩
   ·rintro⟨z,_⟩;have z:HT.sIx _ 0 (some ((1:Nat):Int))=0:=z;rw[HT.A8]at z;simp at z
   ·refine q _ _ (s1.trans (iZ.upd hp')) (.tup (SqT.of iU) ?_);rw[Iq];exact i2.ext (iZ.upd hp')
def De:Dt->Dt->iA Dt
 | .lst ds,.lst es=>if ds.length+es.length<=1000 then some (.lst (ds++es)) else none
 | _,_=>none
theorem Ko {x y d:Dt}(e:De x y=some d):∃ ds es,x=.lst ds/\y=.lst es/\ds.length+es.length<=1000/\d=.lst (ds++es):=by
 cases x with
 | lst ds=>cases y with
  | lst es =>
   have e:(if ds.length+es.length<=1000 then some (Dt.lst (ds++es)) else none)=some d:=e;by_cases hl:ds.length+es.length<=1000
   ·rw[af hl]at e;exact⟨_,_,rfl,rfl,hl,(aF e).symm⟩
   ·rw[ah hl]at e;cases e
  | _=>cases e
 | _=>cases e
theorem Kq:OpR X (binaryOp .Add) (rD X.K De):=opD PK λ x y H Q dx dy d i1 i2 e q=>by obtain⟨ds,es,rfl,rfl,hl,rfl⟩:=Ko e;obtain⟨a,xs,rfl,ha,is⟩:=i1.lst_inv;obtain⟨b,ys,rfl,hb,js⟩:=i2.lst_inv;exact⟨a,b,xs,ys,rfl,rfl,ha,hb,uc (by rw[is.length,js.length];exact hl),λ p hp=>q _ _ (iZ.upd hp) (.lst iU ((is.append js).ext (iZ.upd hp)))⟩
def MO:Dt->Dt->iA Dt
 | .lst [d],.int k=>if 0<=k/\k<=1000 then some (.lst (List.replicate k.toNat d)) else none
 | _,_=>none
theorem Df {α:Type}(x:α):∀ n,(List.replicate n [x]).flatten=List.replicate n x
 | 0=>rfl
 | n+1=>by rw[de,eG,Df x n];rfl
theorem Iss.rep {K:iF}{v:V}{d:Dt}(h:Is K H v d):∀ n,Iss K H (List.replicate n v) (List.replicate n d)
 | 0=>.nil
 | n+1=>.cons h (Iss.rep h n)
theorem Kr {x y d:Dt}(e:MO x y=some d):∃ d0 k,x=.lst [d0]/\y=.int k/\(0<=k/\k<=1000)/\d=.lst (List.replicate k.toNat d0):=by
 cases x with
 | lst ds=>cases ds with
  | nil=>cases e
  | cons d0 r=>cases r with
   | cons _ _=>cases e
   | nil=>cases y with
    | int k =>
     have e:(if 0<=k/\k<=1000 then some (Dt.lst (List.replicate k.toNat d0)) else none)=some d:=e;by_cases hk:0<=k/\k<=1000
     ·rw[af hk]at e;exact⟨_,_,rfl,rfl,hk,(aF e).symm⟩
     ·rw[ah hk]at e;cases e
    | _=>cases e
 | _=>cases e
theorem Sn:OpR X (binaryOp .Mult) (rD X.K MO):=opD Ba λ x y H Q dx dy d i1 i2 e q=>by
 obtain⟨d0,k,rfl,rfl,hk,rfl⟩:=Kr e;obtain⟨a,xs,rfl,ha,is⟩:=i1.lst_inv;cases is with
 | cons j1 j2 =>cases j2;refine⟨a,k,_,rfl,i2.int_inv,ha,by lia,by lia,uc (by simp;lia),λ p hp=>q _ _ (iZ.upd hp) (.lst iU ?_)⟩;rw[Df];exact(Iss.rep j1 _).ext (iZ.upd hp)
theorem Iss.one {K:iF}{xs:List V}{d:Dt}(h:Iss K H xs [d]):∃ v,xs=[v]/\Is K H v d:=by
 cases h with
 | cons h1 h2=>cases h2;exact⟨_,rfl,h1⟩
theorem Iss.two {K:iF}{xs:List V}{d d':Dt}(h:Iss K H xs [d,d']):∃ v v',xs=[v,v']/\Is K H v d/\Is K H v' d':=by
 cases h with
 | cons h1 h2=>obtain⟨v',rfl,h3⟩:=h2.one;exact⟨_,_,rfl,h1,h3⟩
def vD (F:Dt->iA Dt):List Dt->iA Dt
 | [x]=>F x
 | _=>none
@[simp] theorem uh (F:Dt->iA Dt) (x:Dt):vD F [x]=F x:=rfl
theorem mw {F:Dt->iA Dt}{ds:List Dt}{d:Dt}(e:vD F ds=some d):∃ x,ds=[x]/\F x=some d:=by
 cases ds with
 | nil=>cases e
 | cons x r=>cases r with
  | nil=>exact⟨x,rfl,e⟩
  | cons _ _=>cases e
def yu (F:Dt->Dt->iA Dt):List Dt->iA Dt
 | [x,y]=>F x y
 | _=>none
@[simp] theorem Dg (F:Dt->Dt->iA Dt) (x y:Dt):yu F [x,y]=F x y:=rfl
theorem pd {F:Dt->Dt->iA Dt}{ds:List Dt}{d:Dt}(e:yu F ds=some d):∃ x y,ds=[x,y]/\F x y=some d:=by
 cases ds with
 | nil=>cases e
 | cons x r=>cases r with
  | nil=>cases e
  | cons y z=>cases z with
   | nil=>exact⟨x,y,rfl,e⟩
   | cons _ _=>cases e
def Ff:Dt->iA (List Dt)
 | .tup ds=>some ds
 | .lst ds=>some ds
 | _=>none
theorem ui {x:Dt}{l:List Dt}(e:Ff x=some l):x=.tup l\/x=.lst l:=by
 cases x with
 | tup ds=>exact .inl (by rw[aF e])
 | lst ds=>exact .inr (by rw[aF e])
 | _=>cases e
def om:List Dt->iA Dt:=vD λ x=>(Ff x).map λ ds=>.int ds.length
theorem qK:kz X (.builtin "len") (cD X.K om):=yp mf λ xs H Q ds d is e q=>by
 obtain⟨x,rfl,e⟩:=mw e;obtain⟨l,e0,rfl⟩:=jr e;obtain⟨v,rfl,i⟩:=is.one;rcases ui e0 with rfl | rfl
 ·obtain⟨a,ys,rfl,ha,js⟩:=i.jy;exact⟨a,ys,rfl,.inr ha,by rw[js.length];exact q _ H (iZ.refl H) (.int _)⟩
 ·obtain⟨a,ys,rfl,ha,js⟩:=i.lst_inv;exact⟨a,ys,rfl,.inl (SqL.of ha),by rw[js.length];exact q _ H (iZ.refl H) (.int _)⟩
def xJ:Dt->iA (List Dt)
 | .tup ds=>some ds
 | _=>none
theorem pf {x:Dt}{l:List Dt}(e:xJ x=some l):x=.tup l:=by
 cases x with
 | tup ds=>rw[aF e]
 | _=>cases e
def pr2:List Dt->iA (Int×Int)
 | [x,y]=>(zZ x).bind λ a=>(zZ y).map λ b=>(a,b)
 | _=>none
theorem rQ {l:List Dt}{t:Int×Int}(e:pr2 l=some t):l=[.int t.1,.int t.2]:=by
 cases l with
 | nil=>cases e
 | cons x r=>cases r with
  | nil=>cases e
  | cons y z=>cases z with
   | cons _ _=>cases e
   | nil =>obtain⟨a,e1,e2⟩:=iP (show(zZ x).bind _=_ from e);obtain⟨b,e3,e4⟩:=jr e2;rw[o9 e1,o9 e3,<-e4]
@[simp] theorem Um (a b:Int):pr2 [.int a,.int b]=some (a,b):=rfl
def dPr (d:Dt):iA (Int×Int):=(xJ d).bind pr2
theorem GR {d:Dt}{t:Int×Int}(e:dPr d=some t):d=.tup [.int t.1,.int t.2]:=by obtain⟨l,e1,e2⟩:=iP e;rw[pf e1,rQ e2]
@[simp] theorem Uo (a b:Int):dPr (.tup [.int a,.int b])=some (a,b):=rfl
def Qj:Dt->iA (List (Int×Int))
 | .dct ds=>some ds
 | _=>none
theorem Ks {x:Dt}{l:List (Int×Int)}(e:Qj x=some l):x=.dct l:=by
 cases x with
 | dct ds=>rw[aF e]
 | _=>cases e
def Kt:List Dt->iA Dt:=vD λ x=>(Qj x).map λ ds=>.int ds.length
theorem Ir:kz X (.builtin "len") (λ xs H Q=>∃ a kvs,xs=[V.ref a]/\Rd H a (.dK kvs)/\Q (.int kvs.length) H):=by intro pins s σ H xs us Q I r h;obtain⟨a,kvs,rfl,ha,q⟩:=h;obtain⟨u,rfl,ru⟩:=vals1 r;cases ru;exact RX I ha λ t s' I'=>⟨.int kvs.length,H,I',⟨t,rfl⟩,q⟩
theorem Qk:kz X (.builtin "len") (cD X.K Kt):=yp Ir λ xs H Q ds d is e q=>by obtain⟨x,rfl,e1⟩:=mw e;obtain⟨l,e2,rfl⟩:=jr e1;obtain rfl:=Ks e2;obtain⟨v,rfl,i⟩:=is.one;obtain⟨a,rfl,ha⟩:=i.rN;exact⟨a,_,rfl,ha,by rw[kvD,ag];exact q _ H (iZ.refl H) (.int _)⟩
def Sq:List Dt->iA Dt:=vD λ x=>(zZ x).map λ i=>.int (if i<0 then -i else i)
@[simp] theorem Up (i:Int):Sq [.int i]=some (.int (if i<0 then -i else i)):=rfl
theorem GS:kz X (.builtin "abs") (cD X.K Sq):=yp Jx λ xs H Q ds d is e q=>by obtain⟨x,rfl,e1⟩:=mw e;obtain⟨l,e2,rfl⟩:=jr e1;obtain rfl:=o9 e2;obtain⟨v,rfl,i⟩:=is.one;exact⟨_,by rw[i.int_inv],q _ H (iZ.refl H) (.int _)⟩
def Dh (l:List Dt):iA Dt:=(pr2 l).map λ t=>.int (if t.2<t.1 then t.2 else t.1)
def Di (l:List Dt):iA Dt:=(pr2 l).map λ t=>.int (if t.2>t.1 then t.2 else t.1)
theorem Ku (hc:X.calm=true):kz X (.builtin "min") (cD X.K Dh):=yp (vj hc) λ xs H Q ds d is e q=>by obtain⟨l,e1,rfl⟩:=jr e;obtain rfl:=rQ e1;obtain⟨v,v',rfl,i1,i2⟩:=is.two;exact⟨_,_,by rw[i1.int_inv,i2.int_inv],q _ H (iZ.refl H) (.int _)⟩
theorem Kv (hc:X.calm=true):kz X (.builtin "max") (cD X.K Di):=yp (vi hc) λ xs H Q ds d is e q=>by obtain⟨l,e1,rfl⟩:=jr e;obtain rfl:=rQ e1;obtain⟨v,v',rfl,i1,i2⟩:=is.two;exact⟨_,_,by rw[i1.int_inv,i2.int_inv],q _ H (iZ.refl H) (.int _)⟩
def pN:List Dt->iA Dt:=vD λ x=>(Ff x).map .tup
theorem uj:kz X (.type "tuple") (cD X.K pN):=yp se λ xs H Q ds d is e q=>by
 obtain⟨x,rfl,e⟩:=mw e;obtain⟨l,e0,rfl⟩:=jr e;obtain⟨v,rfl,i⟩:=is.one;rcases ui e0 with rfl | rfl
 ·obtain⟨a,ys,rfl,ha,js⟩:=i.jy;exact⟨a,ys,rfl,.inr ⟨ha,q _ H (iZ.refl H) (.tup ha js)⟩⟩
 ·obtain⟨a,ys,rfl,ha,js⟩:=i.lst_inv;exact⟨a,ys,rfl,.inl ⟨SqL.of ha,λ p hp=>q _ _ (iZ.upd hp) (.tup (SqT.of iU) (js.ext (iZ.upd hp)))⟩⟩
def tyD:Dt->iA String
 | .ty T=>some T
 | _=>none
theorem MP {x:Dt}{T:String}(e:tyD x=some T):x=.ty T:=by
 cases x with
 | ty T=>rw[aF e]
 | _=>cases e
def MQ:Dt->String->iA Dt
 | .int _,T=>if T="int" then some (.bl true) else if T="bool"\/T="tuple"\/T="str" then some (.bl false) else none
 | .bl _,T=>if T="int"\/T="bool" then some (.bl true) else if T="tuple" then some (.bl false) else none
 | .tup _,T=>if T="tuple" then some (.bl true) else if T="int"\/T="bool" then some (.bl false) else none
 | .str _,T=>if T="str" then some (.bl true) else if T="int"\/T="tuple" then some (.bl false) else none
 | _,_=>none
def Ql (x y:Dt):iA Dt:=(tyD y).bind (MQ x)
@[simp] theorem GU (x:Dt) (T:String):Ql x (.ty T)=MQ x T:=rfl
def uk:List Dt->iA Dt:=yu Ql
theorem MR {p r:Prop}[Decidable p][Decidable r]{d:Dt}{b c:Bool}(e:(if p then some (Dt.bl b) else if r then some (.bl c) else none)=some d):(p/\d=.bl b)\/(r/\d=.bl c):=by
 by_cases hp:p
 ·rw[af hp]at e;exact .inl ⟨hp,(aF e).symm⟩
 ·by_cases hr:r
  ·rw[ah hp,af hr]at e;exact .inr ⟨hr,(aF e).symm⟩
  ·rw[ah hp,ah hr]at e;cases e
theorem MS {x y d:Dt}(e:Ql x y=some d):∃ T,y=.ty T/\((∃ n,x=.int n/\((T="int"/\d=.bl true)\/((T="bool"\/T="tuple"\/T="str")/\d=.bl false)))\/(∃ n,x=.bl n/\(((T="int"\/T="bool")/\d=.bl true)\/(T="tuple"/\d=.bl false))) \/
  (∃ n,x=.tup n/\((T="tuple"/\d=.bl true)\/((T="int"\/T="bool")/\d=.bl false)))\/(∃ n,x=.str n/\((T="str"/\d=.bl true)\/((T="int"\/T="tuple")/\d=.bl false)))):=by
 obtain⟨T,e1,e⟩:=iP e;refine⟨T,MP e1,?_⟩;cases x with
 | int n=>exact .inl ⟨n,rfl,MR e⟩
 | bl n=>exact .inr (.inl ⟨n,rfl,MR e⟩)
 | tup n=>exact .inr (.inr (.inl ⟨n,rfl,MR e⟩))
 | str n=>exact .inr (.inr (.inr ⟨n,rfl,MR e⟩))
 | _=>cases e
theorem wd:kz X (.builtin "isinstance") (cD X.K uk):=by
 intro pins s σ H xs us Q I rs hz;obtain⟨ds,d,is,e,q⟩:=hz;obtain⟨x,y,rfl,e3⟩:=pd e;obtain⟨T,rfl,e1⟩:=MS e3;clear e e3;obtain⟨v,v',rfl,i1,i2⟩:=is.two;rw[i2.P6]at rs;have q (b:Bool) (hb:d=.bl b) (s':iH) (I':Inv X pins σ H s'):∃ v H',Inv X pins σ H' s'/\RelV v (.bool b)/\Q v H':=⟨.bl b,H,I',rfl,q _ H (iZ.refl H) (by rw[hb];exact .bl _)⟩;obtain⟨u,u',rfl,r1,r2⟩:=vals2 rs;cases r2;rcases e1 with⟨n,rfl,e1⟩ | ⟨n,rfl,e1⟩ | ⟨n,rfl,e1⟩ | ⟨n,rfl,e1⟩
 ·rw[i1.int_inv]at r1
  obtain⟨t,rfl⟩:=r1;rcases e1 with⟨rfl,e2⟩ | ⟨rfl | rfl | rfl,e2⟩
  ·exact IsiPair.int_int (q _ e2 _ I)
  ·exact IsiPair.int_bool (q _ e2 _ (I.tok _))
  ·exact IsiPair.int_tuple (q _ e2 _ (I.tok _))
  ·exact IsiPair.int_str (q _ e2 _ (I.tok _))
 ·rw[i1.lJ]at r1
  cases r1;rcases e1 with⟨rfl | rfl,e2⟩ | ⟨rfl,e2⟩
  ·exact IsiPair.bool_int (q _ e2 _ I)
  ·exact IsiPair.bool_bool (q _ e2 _ I)
  ·exact IsiPair.bool_tuple (q _ e2 _ (I.tok _))
 ·obtain⟨a,ys,rfl,ha,js⟩:=i1.jy
  cases r1;obtain⟨its,_,⟨o,ho,hc,_⟩,_⟩:=I.tuple ha;rcases e1 with⟨rfl,e2⟩ | ⟨rfl | rfl,e2⟩
  ·exact IsiPair.tuple_tuple ho hc (q _ e2 _ I)
  ·exact IsiPair.tuple_int ho hc (q _ e2 _ (I.tok _))
  ·exact IsiPair.tuple_bool ho hc (q _ e2 _ (I.tok _))
 ·rw[i1.str_inv]at r1
  obtain⟨t,rfl⟩:=r1;rcases e1 with⟨rfl,e2⟩ | ⟨rfl | rfl,e2⟩
  ·exact IsiPair.str_str (q _ e2 _ I)
  ·exact IsiPair.str_int (q _ e2 _ (I.tok _))
  ·exact IsiPair.str_tuple (q _ e2 _ (I.tok _))
def Iu:List Dt->iA (List Bool)
 | []=>some []
 | d::ds=>(asB d).bind λ i=>(Iu ds).map (i::·)
theorem Dj:∀ {ds:List Dt} {l:List Bool},Iu ds=some l->ds=l.map .bl
 | [],l,h=>by cases h;rfl
 | d::ds,l,h=>by obtain⟨i,e1,h⟩:=iP h;obtain⟨r,e2,h⟩:=jr h;subst h;rw[Bn e1,Dj e2];rfl
@[simp] theorem Dl (l:List Bool):Iu (l.map .bl)=some l:=by
 induction l with
 | nil=>rfl
 | cons i r ih=>show(some i).bind (λ i=>(Iu (r.map .bl)).map (i::·))=_;rw[ih];rfl
def Kw:Dt->iA (List Dt)
 | .lst ds=>some ds
 | _=>none
theorem Dm {x:Dt}{l:List Dt}(e:Kw x=some l):x=.lst l:=by
 cases x with
 | lst ds=>rw[aF e]
 | _=>cases e
def Dn:List Dt->iA Dt:=vD λ x=>(Kw x).bind λ ds=>(Iu ds).map λ l=>.bl (l.all id)
theorem MT {K:iF}{xs:List V}{l:List Bool}(h:Iss K H xs (l.map .bl)):xs=l.map V.bl:=by
 induction l generalizing xs with
 | nil=>cases h;rfl
 | cons b r ih=>cases h with | cons h1 h2=>rw[h1.lJ,ih h2];rfl
theorem Dp:∀ {l:List Bool} {its:List iG},Vals (l.map V.bl) its->its=l.map Value.bool
 | [],_,.nil=>rfl
 | b::r,_,.cons h t=>by cases h;rw[Dp t];rfl
theorem z3 (l:List Bool):(List.range l.length).all (λ i=>l.getD i true)=l.all id:=by
 rw[bH];simp only[dz,aw,id];constructor
 ·intro h x hx;obtain⟨i,hi,rfl⟩:=bV hx;have:=h i hi;rw[au,aC hi]at this;exact this
 ·intro h i hi;rw[au,aC hi];exact h _ (cJ hi)
theorem Iv {prog:Program}{w:World}{A:Around}{E:ir}{l:Addr}{arr:Array iG}{Q:ir}(hl:s.heap.IsList l arr)
  (h:∀ s2:iH,s2={s with heap:=s.heap.push {cls:=.type "list_iterator",data:=.fields #[.ref l,.int 0 0]}}->s2.heap.IsListIter s.heap.objs.size l 0->s2.heap.IsList l arr->l≠s.heap.objs.size->(∀ b∈[s.heap.objs.size,l],b<s2.heap.objs.size)->Q (.ref s.heap.objs.size) s2) :
  wpAny (model prog w) A (pyIter (.ref l)) Q E s:=by
 have hlt:l<s.heap.objs.size:=by obtain⟨_,e,_⟩:=hl;exact aE e
 refine fJ hl (h _ rfl ⟨_,aS _ rfl,rfl,rfl⟩ (hl.push _) (bw hlt) λ b hb=>?_);simp only[cQ];simp only[aN,cv,or_false]at hb;rcases hb with rfl | rfl
 ·exact g6 _
 ·exact fK hlt
theorem MU {h':Heap}{o:Obj}(hk:∀ b u,b∉[s.heap.objs.size]->(s.heap.push o).get? b=some u->h'.get? b=some u):∀ b u,s.heap.get? b=some u->h'.get? b=some u:=λ b u e =>hk b u (λ hm=>absurd (aE e) (by rw[bA.mp hm];exact bD _)) (ai _ e)
theorem GV (hc:X.calm=true):kz X (.builtin "all") (cD X.K Dn):=by
 intro pins s σ H xs us Q I rs ⟨ds,d,is,e,q⟩;obtain⟨x,rfl,e2⟩:=mw e;obtain⟨l,e0,e3⟩:=iP e2;obtain rfl:=Dm e0;clear e e2 e0
 ·obtain⟨bs,e1,e⟩:=jr e3
  subst e;have e1:=Dj e1;subst e1;obtain⟨v,rfl,i⟩:=is.one;obtain⟨p,ys,rfl,hp,js⟩:=i.lst_inv;obtain⟨u,rfl,ru⟩:=vals1 rs;cases ru;obtain⟨its,rv,pl,_⟩:=I.list (SqL.of hp);rw[MT js]at rv;have e2:=Dp rv;subst e2;refine call_all_walk (Iv pl.isList λ s2 es hi hl ne hfp=>?_);refine⟨_,_,_,_,_,_,λ i=>bs.getD i true,rfl,Walks.list (A:=X.A.in1) (I.ok.hd hc) _ p ne _,⟨hi,hl⟩,?_,λ h' tk hk=>?_⟩
  ·intro i v s' Q' E' hv hq
   have hv:(bs.map Value.bool)[i]?=some v:=by simpa using hv
   rw[ax]at hv;cases hb:bs[i]? with
   | none=>rw[hb]at hv;cases hv
   | some k =>rw[hb]at hv;cases hv;refine cx ?_;have hq:Q' (bs.getD i true) s':=hq;rw[au,hb]at hq;exact hq
  ·subst es
   refine⟨.bl (bs.all id),H,I.kept (t':=tk) (MU hk),?_,q _ H (iZ.refl H) (.bl _)⟩;have:(List.range (bs.map Value.bool).toArray.size).all (λ i=>bs.getD i true)=bs.all id:=by rw[aM,ag,z3]
   rw[this];rfl
def Bs (srt:List Int->List Int):List Dt->iA Dt:=vD λ x=>(Kw x).bind λ ds=>if ds.length<64 then (kU ds).map λ l=>.lst ((srt l).map .int) else none
theorem w_:∀ {us:List iG} {ns:List Int},IntsAre us ns->Vals (ns.map V.int) us:=by
 intro us ns h;induction h with
 | nil=>exact .nil
 | cons n t _ ih=>exact .cons ⟨t,rfl⟩ ih
theorem Kx (srt:List Int->List Int)(hp:∀ l,(srt l).Perm l)(hs:∀ l,(srt l).Pairwise (·<=·)):kz X (.builtin "sorted") (cD X.K (Bs srt)):=by
 intro pins s σ H xs us Q I rs ⟨ds,d,is,e,q⟩;obtain⟨x,rfl,e2⟩:=mw e;obtain⟨l,e0,e3⟩:=iP e2;obtain rfl:=Dm e0;clear e e2 e0
 ·by_cases h64:l.length<64
  ·rw[af h64]at e3
   obtain⟨bs,e1,e⟩:=jr e3;subst e;have e1:=lY e1;subst e1;obtain⟨v,rfl,i⟩:=is.one;obtain⟨p,ys,rfl,hp',js⟩:=i.lst_inv;obtain⟨u,rfl,ru⟩:=vals1 rs;cases ru;obtain⟨its,rv,pl,_⟩:=I.list (SqL.of hp');rw[js.ints]at rv;have hlen:its.length=bs.length:=by have:=rv.length;simpa using this.symm
   have h64:bs.length<64:=by simpa using h64
   refine sorted_ints pl.isList (intsAre_of rv) (by lia) λ out ns' ia pe pw=>?_;obtain⟨ep,he⟩:=sortedAll_at s.heap its out;have hns:ns'=srt bs:=by have p2:=pe.trans (hp bs).symm;exact p2.eq_of_pairwise (λ a b _ _ h1 h2=>Int.le_antisymm h1 h2) pw (hs bs)
   subst hns;have hnew:=I.laid (a:=s.heap.objs.size+1) (o:=.lst ((srt bs).map V.int)) (h':=sortedAll s.heap its out) (t':=s.toks) (λ b u e=>sortedAll_old e) (ib _) ⟨by rw[ag,(hp bs).length_eq,sizeLine_eq];lia,out.toList,ep,w_ ia,by simpa using he⟩;exact⟨.ref (s.heap.objs.size+1),_,hnew,rfl,q _ _ (iZ.upd (I.hok.fresh (ib _))) (.lst iU (Iss.rO _))⟩
  ·rw[ah h64]at e3;cases e3
end
end L2
namespace L2
open PySem PySem.Spec PyProof.Rows Zp
section
variable {X:Cx}{e a b c:Expr}{es:List Expr}{pos:Pos}{tg:Expr}
theorem Qm {scope:Scope}{own fr:List Str}{ix:List Nat}(h1:scope.kind=.function:=by rfl)(h2:(scope.names.all λ x=>x.2 != .local || scope.names.lookup x.1==some .local)=true:=by rfl)
  (h3:(scope.names.all λ x=>x.2 != .cell)=true:=by rfl) (h4:(scope.names.all λ x=>x.2 != .free || (X.env.kindOf x.1==some .cell || X.env.kindOf x.1==some .free))=true:=by rfl)
  (h5:(own.all λ x=>scope.names.lookup x==some .local)=true:=by rfl) (h6:(fr.all λ x=>scope.names.lookup x==some .free)=true:=by rfl) (h7:ix.map (λ i=>X.N[i]?)=fr.map some:=by rfl) (h8:(own++fr).Nodup:=by decide +kernel):mh X scope own fr ix:=by
 simp only[dz,Bool.or_eq_true,bne_iff_ne,beq_iff_eq]at h2 h3 h4 h5 h6;refine⟨h1,λ x hx e=>?_,λ x hx=>h3 x hx,λ x hx e=>?_,h5,h6,h7,h8⟩
 ·rcases h2 x hx with z | z
  ·exact absurd e z
  ·exact z
 ·rcases h4 x hx with z | z
  ·exact absurd e z
  ·exact z
def lZ:Dt->iA (List Dt)
 | .tup ds=>some ds
 | .lst ds=>some ds
 | _=>none
theorem nV {g:DE->iA Dt}(h:PD X e g):PI X tg e (iD X.K (gI lZ g)):=λ pins s σ H R I hz1=>by
 obtain⟨δ,ds,S,q,k⟩:=hz1;obtain⟨x,e1,e2⟩:=iP q;cases x<;>simp[lZ]at e2
 ·subst e2;exact P_ h pins s σ H R I ⟨δ,_,S,by unfold gI;rw[e1];rfl,k⟩
 ·subst e2;exact Qa h pins s σ H R I ⟨δ,_,S,by unfold gI;rw[e1];rfl,k⟩
def qL (gs:DE->iA (List Dt)):DE->iA (List Dt):=λ δ=>(gs δ).bind yo
def Sr (gs:DE->iA (List Dt)):DE->iA (List Dt):=λ δ=>(gs δ).bind Si
def Fg (t1 t2:Bool)(gs:DE->iA (List Dt)):DE->iA (List Dt):=λ δ=>(gs δ).bind (Fd t1 t2)
def Ky (g:DE->iA Dt):DE->iA Dt:=λ δ=>(g δ).bind Dc
theorem pO {gs:DE->iA (List Dt)}{p:Pos}(hm:X.mg "range"=none)(ha:PDs X [a] gs)(hg:Gl X "range":=by rfl)(hs:starEach [a] X.env=[(false,eval a X.env)]:=by rfl):PI X tg (.Call (.Name "range" p) [a] [] pos) (iD X.K (qL gs)):=Ik hm ha hg hs
theorem Dq {gs:DE->iA (List Dt)}{elts:List Expr}{kk:Nat}{ps p:Pos}(t1 t2:Bool)(hm:X.mg "zip"=none)(ha:PDs X [a,b] gs)(hg:Gl X "zip":=by rfl)(hs:starEach [a,b] X.env=[(false,eval a X.env),(false,eval b X.env)]:=by rfl)(hs2:starEach [b] X.env=[(false,eval b X.env)]:=by rfl):PI X (.Tuple elts kk ps) (.Call (.Name "zip" p) [a,b] [] pos) (iD X.K (Fg t1 t2 gs)):=Qc t1 t2 hm ha hg hs hs2 boot_zip
theorem UY {ga:DE->iA Dt}{j:Nat}{p p2:Pos}(ha:PD X a ga):PD X (.Subscript a (.Slice (some (.Constant (.int 1) j p)) none none p2) pos) (Ky ga):=Qi ha
theorem jh {k:Nat}{A:Around}(hr:lV k A):A.units+2<cLine:=by have:=hr.units;lia
end
abbrev Hg (n:Nat)(N:List Str)(f:List Dt->iA Dt)(g:DE->iA RD):Prop:=∀ ds d,ds.length=n->f ds=some d->∃ r,g (mK N ds)=some r/\Qd r=d
def srt (l:List Int):List Int:=l.mergeSort (λ a b=>decide (a<=b))
theorem Ds (l:List Int):(srt l).Perm l:=List.mergeSort_perm ..
theorem Fh (l:List Int):(srt l).Pairwise (·<=·):=by have:=List.pairwise_mergeSort (le:=λ a b:Int=>decide (a<=b)) (λ a b c h1 h2=>by simp at *;lia) (λ a b=>by simp;lia) l;exact this.imp λ h=>by simpa using h
def iO (q:Rat):Dt:=.tup [.int q.num,.int q.den]
def dQ (d:Dt):iA Rat:=(dPr d).bind λ t=>if 0<t.2/\Int.gcd t.1 t.2=1 then some (Rat.divInt t.1 t.2) else none
theorem yw {a b:Int}(h:0<b)(g:Int.gcd a b=1):(Rat.divInt a b).num=a/\((Rat.divInt a b).den:Int)=b:=by
 obtain⟨n,rfl⟩:∃ n:Nat,b=n:=⟨b.toNat,by lia⟩;have hn:n≠0:=by lia
 rw[cw];have g':a.natAbs.gcd n=1:=by simpa [Int.gcd] using g
 rw[<-Rat.normalize_eq_mkRat hn,Rat.normalize_eq hn];simp[g']
theorem vE {d:Dt}{q:Rat}(h:dQ d=some q):d=iO q:=by
 obtain⟨t,e,h⟩:=iP h;rw[GR e];by_cases hc:0<t.2/\Int.gcd t.1 t.2=1
 ·rw[af hc]at h;cases h;obtain⟨h1,h2⟩:=yw hc.1 hc.2;unfold iO;rw[h1,h2]
 ·rw[ah hc]at h;cases h
@[simp] theorem nh (q:Rat):dQ (iO q)=some q:=by
 show(if 0<(q.den:Int)/\Int.gcd q.num q.den=1 then some (Rat.divInt q.num q.den) else none)=some q;have h1:0<q.den:=q.den_pos;have h2:Int.gcd q.num q.den=1:=by simpa [Int.gcd,Nat.Coprime] using q.reduced
 rw[af ⟨by lia,h2⟩,cw,dO]
def dQs:List Dt->iA (List Rat)
 | []=>some []
 | d::ds=>(dQ d).bind λ i=>(dQs ds).map (i::·)
theorem xo:∀ {ds:List Dt} {l:List Rat},dQs ds=some l->ds=l.map iO
 | [],l,h=>by cases h;rfl
 | d::ds,l,h=>by obtain⟨i,e1,h⟩:=iP h;obtain⟨r,e2,h⟩:=jr h;subst h;rw[vE e1,xo e2];rfl
@[simp] theorem Bt (l:List Rat):dQs (l.map iO)=some l:=by
 induction l with
 | nil=>rfl
 | cons i r ih=>show(dQ (iO i)).bind (λ i=>(dQs (r.map iO)).map (i::·))=_;rw[ih,nh];rfl
def sm (q:Rat):Prop:=q.num.natAbs<2 ^ 1900/\q.den<2 ^ 1900
instance (q:Rat):Decidable (sm q):=inferInstanceAs (Decidable (_/\_))
abbrev AE:Dt:=.tup [.int 0,.int 1]
abbrev MV:Dt:=.tup [.int 1,.int 1]
theorem Ss:iO 0=AE:=rfl
def Kz:Dt->iA Dt
 | .int _=>some (.bl true)
 | .bl _=>some (.bl false)
 | .tup _=>some (.bl false)
 | _=>none
def k9:List Dt->iA Dt:=vD Kz
@[simp] theorem OF (n:Int):k9 [.int n]=some (.bl true):=rfl
def j7 (l:List Dt):iA Dt:=(pr2 l).map λ t=>.int (Int.gcd t.1 t.2)
@[simp] theorem Su (a b:Int):j7 [.int a,.int b]=some (.int (Int.gcd a b)):=rfl
def lM:List Dt->iA Dt
 | [x]=>(dQ x).map λ _=>.bl true
 | _=>none
def kM:List Dt->iA Dt:=yu λ x y=>(xJ x).bind λ xs=>(zZ y).bind λ n=>(dQs xs).bind λ l=>if l.length<=1000/\(l.length:Int)=n then some (.bl true) else none
def jT (l:List Dt):iA Dt:=(pr2 l).bind λ t=>if 0<t.2/\bd t.2 then some (iO (Rat.divInt t.1 t.2)) else none
@[simp] theorem nJ (a b:Int):jT [.int a,.int b]=if 0<b/\bd b then some (iO (Rat.divInt a b)) else none:=rfl
theorem Du {l:List Dt}{d:Dt}(h:jT l=some d):∃ a b:Int,l=[.int a,.int b]/\(0<b/\bd b)/\d=iO (Rat.divInt a b):=by
 obtain⟨t,e,h⟩:=iP h;by_cases hc:0<t.2/\bd t.2
 ·rw[af hc]at h;exact⟨_,_,rQ e,hc,(aF h).symm⟩
 ·rw[ah hc]at h;cases h
def qM:List Dt->iA Dt
 | [x,y]=>(dQ x).bind λ a=>(dQ y).bind λ b=>if sm a/\sm b then some (iO (a+b)) else none
 | _=>none
def my:List Dt->iA Dt
 | [x,y]=>(dQ x).bind λ a=>(dQ y).bind λ b=>if sm a/\sm b then some (iO (a*b)) else none
 | _=>none
def vF:Rat->List Rat->iA Rat
 | a,[]=>some a
 | a,b::r=>if sm a/\sm b then vF (a+b) r else none
def oz:List Dt->iA Dt
 | [x]=>(lZ x).bind λ xs=>(dQs xs).bind λ l=>(vF 0 l).map iO
 | _=>none
def yy:DE->iA RD:=(jJ (w6 (jF uk (iL (iN 0) (iL (gC (.ty "int")) iQ))) (P7 (jF uk (iL (iN 0) (iL (gC (.ty "bool")) iQ))))))
abbrev Fi:List Str:=["thing"]
def oR:DE->iA RD:=(jL (ng (qp (kX (gTr (jF uk (iL (iN 0) (iL (gC (.ty "tuple")) iQ))))) (gB (iY mv (jF om (iL (iN 0) iQ)) (gC (.int 2))))) (jJ (gC (.bl false))) kT) (jL (ue (kY 1 2) (iN 0)) (jL (ng (qp (kX (gTr (iT 1 k9 (iL (iN 1) iQ)))) (kX (gTr (iT 1 k9 (iL (iN 2) iQ))))) (jJ (gC (.bl false))) kT) (jJ (w6 (iY (dIB λ i j=>decide (j<=i)) (iN 2) (gC (.int 1))) (iY kx (iT 2 j7 (iL (iN 1) (iL (iN 2) iQ))) (gC (.int 1))))))))
abbrev z4:List Str:=["thing","top","bottom"]
def nq:DE->iA RD:=(jL (ng (qp (kX (gTr (jF uk (iL (iN 0) (iL (gC (.ty "tuple")) iQ))))) (gB (iY mv (jF om (iL (iN 0) iQ)) (iN 1)))) (jJ (gC (.bl false))) kT) (jJ (jF Dn (iL (gLC ["one"] [] (gI lZ (iN 0)) (ggN 0) kA (iT 1 lM (iL (iN 0) iQ))) iQ))))
abbrev xa:List Str:=["thing","many"]
def sN:DE->iA RD:=(jL (kZ 2 (iT 2 j7 (iL (iN 0) (iL (iN 1) iQ)))) (jJ (kL (iL (iY Im (iN 0) (iN 2)) (iL (iY Im (iN 1) (iN 2)) iQ)))))
abbrev Fj:List Str:=["top","bottom","divisor"]
def Fl:DE->iA RD:=(jJ (iT 2 jT (iL (iY (dI (·+·)) (iY mL (iY dIx (iN 0) (gC (.int 0))) (iY dIx (iN 1) (gC (.int 1)))) (iY mL (iY dIx (iN 1) (gC (.int 0))) (iY dIx (iN 0) (gC (.int 1))))) (iL (iY mL (iY dIx (iN 0) (gC (.int 1))) (iY dIx (iN 1) (gC (.int 1)))) iQ))))
abbrev Qn:List Str:=["one","other"]
def Bu:DE->iA RD:=(jJ (iT 2 jT (iL (iY mL (iY dIx (iN 0) (gC (.int 0))) (iY dIx (iN 1) (gC (.int 0)))) (iL (iY mL (iY dIx (iN 0) (gC (.int 1))) (iY dIx (iN 1) (gC (.int 1)))) iQ))))
abbrev MW:List Str:=["one","other"]
def Bv:DE->iA RD:=(jL (kZ 1 (gC AE)) (jL (Il (gI lZ (iN 0)) (ggN 2) (kZ 1 (iT 2 qM (iL (iN 1) (iL (iN 2) iQ))))) (jJ (iN 1))))
abbrev MX:List Str:=["fractions","whole","one"]
theorem Dv:Hg 1 Fi k9 yy:=by
 intro ds d hl h;obtain⟨x,rfl,h⟩:=mw h;cases x with
 | int _=>cases h;exact⟨_,rfl,rfl⟩
 | bl _=>cases h;exact⟨_,rfl,rfl⟩
 | tup _=>cases h;exact⟨_,rfl,rfl⟩
 | _=>cases h
theorem pP {a b:Int}(h:0<b):(Rat.divInt a b).num=a / (Int.gcd a b:Int)/\((Rat.divInt a b).den:Int)=b / (Int.gcd a b:Int):=by
 obtain⟨n,rfl⟩:∃ n:Nat,b=n:=⟨b.toNat,by lia⟩;have hn:n≠0:=by lia
 rw[cw,<-Rat.normalize_eq_mkRat hn,Rat.normalize_eq hn];simp[Int.gcd]
theorem Bw {a b:Int}(h:0<b):0<(Int.gcd a b:Int)/\(Int.gcd a b:Int)<=b:=by have h1:0<Int.gcd a b:=Int.gcd_pos_of_ne_zero_right _ (by lia);have h2:(Int.gcd a b:Int) ∣ b:=Int.gcd_dvd_right ..;exact⟨by lia,Int.le_of_dvd h h2⟩
theorem OG {a b:Int}(h:bd b)(h0:0<=a)(h1:a<=b):bd a:=by unfold bd at *;exact bR (by lia) h
theorem Dw:Hg 2 Fj jT sN:=by
 intro ds d hl h;obtain⟨a,b,rfl,hc,rfl⟩:=Du h
 ··clear h;obtain⟨h1,h2⟩:=pP (a:=a) hc.1;obtain⟨h3,h4⟩:=Bw (a:=a) hc.1;have h5:0<(Int.gcd a b:Int)/\bd (Int.gcd a b:Int):=⟨h3,OG hc.2 (by lia) h4⟩;refine⟨.rt (iO (Rat.divInt a b)),?_,rfl⟩;unfold iO;rw[h1,h2];simp[sN,jL,kZ,iT,iL,iN,iQ,mK,j7,jJ,kL,iY,dIC,h5,show b≠0 by lia]
theorem yz:Hg 1 z4 lM oR:=by
 intro ds d hl h;match ds,h with
 | [x],h =>
  obtain⟨q,e,h⟩:=jr (show(dQ x).map _=_ from h);subst h;have e:=vE e;subst e;have h1:0<q.den:=q.den_pos;have h2:Int.gcd q.num q.den=1:=by simpa [Int.gcd,Nat.Coprime] using q.reduced
  refine⟨.rt (.bl true),?_,rfl⟩;simp[oR,iO,jL,ng,qp,kX,gTr,jF,uk,Dg,uh,GU,MQ,Ff,iL,iN,gC,iQ,mK,gB,iY,mv,om,asB,Fb,sh3,sh1,dEq,kT,ue,kY,iT,k9,Kz,uh,jJ,w6,dIB,kx,j7,h2];lia
theorem kl {α:Type}{enc:α->Dt}{gg:Dt->DE->iA DE}{gt:DE->iA Bool}{ge:DE->iA Dt}{δc:DE}{δa:α->DE}{p:α->Bool}{enc':α->Dt}:∀ (l:List α),(∀ a∈l,gg (enc a) δc=some (δa a)/\gt (δa a)=some (p a)/\(p a=true->ge (δa a)=some (enc' a))) ->
  zX gg gt ge δc (l.map enc)=some ((l.filter p).map enc')
 | [],_=>rfl
 | a::r,h=>by
  obtain⟨h1,h2,h3⟩:=h a ar;have ih:=kl r λ b hb=>h b (av _ hb);rw[aq,zX,h1,ae,h2,ae,ih];cases hp:p a with
  | true=>rw[af rfl,h3 hp,dR hp];rfl
  | false=>rw[ah aI,dS (by rw[hp];exact aI)]
theorem jZ {α:Type}{enc:α->Dt}{gg:Dt->DE->iA DE}{ge:DE->iA Dt}{δc:DE}{δa:α->DE}{enc':α->Dt}(l:List α)(h:∀ a∈l,gg (enc a) δc=some (δa a)/\ge (δa a)=some (enc' a)) :
  zX gg kA ge δc (l.map enc)=some (l.map enc'):=by
 have:=kl (gt:=kA) (p:=λ _=>true) l λ a ha=>⟨(h a ha).1,rfl,λ _=>(h a ha).2⟩;rw[this,List.filter_eq_self.mpr λ _ _=>rfl]
theorem Fm {a b:Int}(ha:a.natAbs<2 ^ 1900)(hb:b.natAbs<2 ^ 1900):bd (a*b):=by
 unfold bd;rw[fO]
 calc a.natAbs*b.natAbs<=2 ^ 1900*2 ^ 1900:=cE (fq ha) (fq hb)
  _=2 ^ 3800:=by rw[<-il]
  _<2 ^ 4000:=fi (by decide) (by decide)
theorem nC {a:Int}(ha:a.natAbs<2 ^ 1900):bd a:=aJ ha (bN (by decide) (by decide))
theorem Fn (a b:Rat):Rat.divInt (a.num*b.den+b.num*a.den) ((a.den:Int)*b.den)=a+b:=by have h:=Rat.divInt_add_divInt a.num b.num (d₁:=a.den) (d₂:=b.den) (by have:=a.den_pos;lia) (by have:=b.den_pos;lia);rw[<-h,cw,cw,dO,dO]
theorem Fo (a b:Rat):Rat.divInt (a.num*b.num) ((a.den:Int)*b.den)=a*b:=by have h:=Rat.divInt_mul_divInt a.num b.num (d₁:=a.den) (d₂:=b.den);rw[<-h,cw,cw,dO,dO]
set_option tactic.hygienic true in
theorem KA {x y:Dt}{d:Dt}{f:Rat->Rat->Rat}(h:((dQ x).bind λ a=>(dQ y).bind λ b=>if sm a/\sm b then some (iO (f a b)) else none)=some d):∃ a b,x=iO a/\y=iO b/\sm a/\sm b/\d=iO (f a b):=by
 obtain⟨a,e1,h⟩:=iP h;obtain⟨b,e2,h⟩:=iP h;split at h
 ·rename_i hc;cases h;exact⟨a,b,vE e1,vE e2,hc.1,hc.2,rfl⟩
 ·cases h
theorem MY {α:Type}(x y:α):atI [x,y] 0=some x:=rfl
theorem MZ {α:Type}(x y:α):atI [x,y] 1=some y:=rfl
theorem GW:Hg 2 Qn qM Fl:=by
 intro ds d hl h;match ds,h with
 | [x,y],h =>obtain⟨a,b,rfl,rfl,ha,hb,rfl⟩:=KA (f:=(·+·)) h;have h1:0<((a.den:Int)*b.den):=Int.mul_pos (by have:=a.den_pos;lia) (by have:=b.den_pos;lia);have h2:bd ((a.den:Int)*b.den):=Fm (by simpa using ha.2) (by simpa using hb.2);have a1:=nC ha.1;have b1:=nC hb.1;have a2:bd (a.den:Int):=nC (by simpa using ha.2);have b2:bd (b.den:Int):=nC (by simpa using hb.2);refine⟨.rt (iO (a+b)),?_,rfl⟩;rw[<-Fn];simp only[Fl,iO,jJ,iT,iL,iY,iN,gC,iQ,mK,aq,dH,aQ,cn,d3,bE,bh,dB,ae,dIx,MY,MZ,dIC,dI,a1,b1,a2,b2,and_self,cM,bP,nJ,h1,h2]
theorem Dx:Hg 2 MW my Bu:=by
 intro ds d hl h;match ds,h with
 | [x,y],h =>obtain⟨a,b,rfl,rfl,ha,hb,rfl⟩:=KA (f:=(·*·)) h;have h1:0<((a.den:Int)*b.den):=Int.mul_pos (by have:=a.den_pos;lia) (by have:=b.den_pos;lia);have h2:bd ((a.den:Int)*b.den):=Fm (by simpa using ha.2) (by simpa using hb.2);have a1:=nC ha.1;have b1:=nC hb.1;have a2:bd (a.den:Int):=nC (by simpa using ha.2);have b2:bd (b.den:Int):=nC (by simpa using hb.2);refine⟨.rt (iO (a*b)),?_,rfl⟩;rw[<-Fo];simp only[Bu,iO,jJ,iT,iL,iY,iN,gC,iQ,mK,aq,dH,aQ,cn,d3,bE,bh,dB,ae,dIx,MY,MZ,dIC,dI,a1,b1,a2,b2,and_self,cM,bP,nJ,h1,h2]
set_option tactic.hygienic true in
theorem yA (x:Dt):∀ (l:List Rat) (a b:Rat) (o:iA Dt),vF a l=some b->∃ o',wc (ggN 2) (kZ 1 (iT 2 qM (iL (iN 1) (iL (iN 2) iQ)))) [some x,some (iO a),o] (l.map iO)=some (.nx [some x,some (iO b),o'])
 | [],a,b,o,h=>by cases h;exact⟨o,rfl⟩
 | c::r,a,b,o,h=>by
  have h:(if sm a/\sm c then vF (a+c) r else none)=some b:=h;split at h
  ·rename_i hc;obtain⟨o',ih⟩:=yA x r (a+c) b (some (iO c)) h;refine⟨o',?_⟩;rw[<-ih];simp only[aq,wc,ggN,ae,kZ,iT,iL,iN,iQ,gN,gO,bh,bE,dB,bP,aQ,cn,cM,qM,nh,hc,and_self]
  ·cases h
theorem KC:Hg 1 MX oz Bv:=by
 intro ds d hl h;match ds,h with
 | [x],h =>obtain⟨xs,e1,h⟩:=iP (show(lZ x).bind _=_ from h);obtain⟨l,e2,h⟩:=iP h;obtain⟨b,e3,h⟩:=jr h;subst h;have e2:=xo e2;subst e2;obtain⟨o',e4⟩:=yA x l 0 b none e3;refine⟨.rt (iO b),?_,rfl⟩;simp only[Bv,jL,kZ,gC,bP,ae,mK,aq,dH,aQ,cn,d3,Il,gI,iN,List.replicate,gN,gO,bh,bE,dB,e1,jJ,gu];rw[Ss]at e4;simp only[e4,bh,bE,dB,ae,bP]
theorem vG:Hg 2 xa kM nq:=by
 intro ds d hl h;obtain⟨x,y,rfl,h1⟩:=pd h;obtain⟨xs,e3,h2⟩:=iP h1;obtain⟨n,e4,h3⟩:=iP h2;obtain⟨l,e1,h4⟩:=iP h3;obtain rfl:=pf e3;obtain rfl:=o9 e4;clear h h1 h2 h3 e3 e4
 ·by_cases hc:l.length<=1000/\(l.length:Int)=n
  ·rw[af hc]at h4
   cases h4;have e1:=xo e1;subst e1;refine⟨.rt (.bl true),?_,rfl⟩;have lc:=jZ (enc:=iO) (gg:=ggN 0) (ge:=iT 1 lM (iL (iN 0) iQ)) (δc:=[none]) (δa:=λ q=>[some (iO q)]) (enc':=λ _=>.bl true) l λ a _=>⟨rfl,by simp[iT,iL,iN,iQ,lM]⟩
   have e3:(l.map λ _=>Dt.bl true)=(l.map λ _=>true).map Dt.bl:=by simp
   rw[e3]at lc;have e4:(l.map λ _=>true).all id=true:=by simp
   simp only[nq,jL,ng,qp,kX,gTr,jF,uk,Dg,uh,GU,MQ,Ff,iL,iN,gC,iQ,mK,gB,iY,mv,om,asB,Fb,sh3,sh1,dEq,kT,aq,dH,aQ,cn,d3,bE,bh,dB,ae,bP,cM,dJ,aW,bY,ag,hc.2,beq_self_eq_true,jJ,gLC,gI,lZ,sr,cF,hc.1];simp only[gLC,gI,lZ,sr,lc,bP,Dn,uh,Kw,Dl,e4,ag,ae,dH,cF]
  ·rw[ah hc]at h4;cases h4
end L2
namespace L2
section
variable (δ:DE)(g g' g2:DE->iA Dt)(r r':DE->iA RD)(gs:DE->iA (List Dt))(t t':DE->iA Bool)(i j:Nat)(f f':Dt->Dt->iA Dt)(h:List Dt->iA Dt)(d:Dt)
@[simp] theorem Sv:jL r r' δ=(r δ).bind λ x=>match x with | .nx δ'=>r' δ' | .rt d=>some (.rt d):=rfl
@[simp] theorem VI:kZ i g δ=(g δ).map λ d=>.nx (δ.set i (some d)):=rfl
@[simp] theorem Uq:iT i h gs δ=(gs δ).bind λ ds=>if ds.length=i then h ds else none:=rfl
@[simp] theorem UZ:jF h gs δ=(gs δ).bind h:=rfl
@[simp] theorem U0:iL g gs δ=(g δ).bind λ x=>(gs δ).map λ r=>x::r:=rfl
@[simp] theorem Ur:iQ δ=some []:=rfl
@[simp] theorem VJ:iN i δ=(δ[i]?).join:=rfl
@[simp] theorem e_C:gC d δ=some d:=rfl
@[simp] theorem VL:iY f g g' δ=(g δ).bind λ x=>(g' δ).bind λ y=>f x y:=rfl
@[simp] theorem VM:jJ g δ=(g δ).map .rt:=rfl
@[simp] theorem U1:nU g δ=(g δ).map λ _=>.nx δ:=rfl
@[simp] theorem U2:kT δ=some (.nx δ):=rfl
@[simp] theorem Us:sM δ=none:=rfl
@[simp] theorem VN:ng t r r' δ=(t δ).bind λ k=>if k=true then r δ else r' δ:=rfl
@[simp] theorem Wb:gIf t g g' δ=(t δ).bind λ k=>if k=true then g δ else g' δ:=rfl
@[simp] theorem VO:qp t t' δ=(t δ).bind λ k=>if k=true then some true else t' δ:=rfl
@[simp] theorem U3:Sa t t' δ=(t δ).bind λ k=>if k=true then t' δ else some false:=rfl
@[simp] theorem U4:kX t δ=(t δ).map (!·):=rfl
@[simp] theorem Wc:gTr g δ=(g δ).bind Fb:=rfl
@[simp] theorem e_B:gB g δ=(g δ).bind asB:=rfl
@[simp] theorem VP:w6 g g' δ=(gB g δ).bind λ k=>if k=true then g' δ else some (.bl false):=rfl
@[simp] theorem Wd:gOr g g' δ=(gB g δ).bind λ k=>if k=true then some (.bl true) else g' δ:=rfl
@[simp] theorem VQ:P7 g δ=(gB g δ).map λ k=>.bl (!k):=rfl
@[simp] theorem VR:kL gs δ=(gs δ).bind λ ds=>if ds.length<=1000 then some (.tup ds) else none:=rfl
@[simp] theorem VS:C7 gs δ=(gs δ).bind λ ds=>if ds.length<=1000 then some (.lst ds) else none:=rfl
@[simp] theorem Ut:vz f f' g g' g2 δ=(g δ).bind λ x=>(g' δ).bind λ y=>(f x y).bind λ z=>(asB z).bind λ k=>if k=true then (g2 δ).bind λ w=>f' y w else some (.bl false):=rfl
@[simp] theorem VT (gg:Dt->DE->iA DE):ue gg g δ=(g δ).bind λ d=>(gg d δ).map .nx:=rfl
@[simp] theorem U5 (x y:Dt):kY i j (.tup [x,y]) δ=some ((δ.set i (some x)).set j (some y)):=rfl
@[simp] theorem Sw:ggN i d δ=some (δ.set i (some d)):=rfl
@[simp] theorem VU:Sj i j gs δ=(gs δ).bind λ ds=>match ds with | [x,y]=>some (.nx ((δ.set i (some x)).set j (some y))) | _=>none:=rfl
@[simp] theorem We (own:List PySem.Str) (ix:List Nat) (gi:DE->iA (List Dt)) (gg:Dt->DE->iA DE):gLC own ix gi gg t g δ=(gi δ).bind λ ds=>if ds.length<=1000 then (zX gg t g (sr own ix δ) ds).map .lst else none:=rfl
@[simp] theorem VW (gi:DE->iA (List Dt)) (gg:Dt->DE->iA DE):Il gi gg r δ=(gi δ).bind λ ds=>wc gg r δ ds:=rfl
@[simp] theorem Wf (f:Dt->iA (List Dt)):gI f g δ=(g δ).bind f:=rfl
@[simp] theorem U6:qL gs δ=(gs δ).bind yo:=rfl
@[simp] theorem U7:Sr gs δ=(gs δ).bind Si:=rfl
@[simp] theorem VX (t1 t2:Bool):Fg t1 t2 gs δ=(gs δ).bind (Fd t1 t2):=rfl
@[simp] theorem U8:Ky g δ=(g δ).bind Dc:=rfl
@[simp] theorem Qo:kA δ=some true:=rfl
@[simp] theorem U9 (own:List PySem.Str) (ix:List Nat):sr own ix δ=own.map (λ _=>none)++ix.map λ i=>(δ[i]?).getD none:=rfl
@[simp] theorem Uu (N:List PySem.Str) (ds:List Dt):mK N ds=ds.map some++List.replicate (N.length-ds.length) none:=rfl
@[simp] theorem U_ {α:Type} (x:α):List.replicate 0 x=[]:=rfl
@[simp] theorem Va {α:Type} (x:α):List.replicate 1 x=[x]:=rfl
@[simp] theorem Vb {α:Type} (x:α):List.replicate 2 x=[x,x]:=rfl
@[simp] theorem Vc {α:Type} (x:α):List.replicate 3 x=[x,x,x]:=rfl
@[simp] theorem Vd {α:Type} (x:α):List.replicate 4 x=[x,x,x,x]:=rfl
@[simp] theorem Ve (ds:List Dt):lZ (.tup ds)=some ds:=rfl
@[simp] theorem Vf (ds:List Dt):lZ (.lst ds)=some ds:=rfl
@[simp] theorem Vg (b:Bool):Fb (.bl b)=some b:=rfl
@[simp] theorem VY (b:Bool):asB (.bl b)=some b:=rfl
@[simp] theorem Vh (n:Int):uk [.int n,.ty "int"]=some (.bl true):=rfl
@[simp] theorem Vi (n:Int):uk [.int n,.ty "bool"]=some (.bl false):=rfl
@[simp] theorem Vj (n:List Dt):uk [.tup n,.ty "tuple"]=some (.bl true):=rfl
@[simp] theorem Vk (n:List Dt):om [.tup n]=some (.int n.length):=rfl
@[simp] theorem Vl (n:List Dt):om [.lst n]=some (.int n.length):=rfl
@[simp] theorem Vm (n:List (Int×Int)):Kt [.dct n]=some (.int n.length):=rfl
@[simp] theorem Sx (n:List Dt):pN [.lst n]=some (.tup n):=rfl
@[simp] theorem Sy (n:List Dt):pN [.tup n]=some (.tup n):=rfl
@[simp] theorem Wg (g:Int->Int->Int) (a b:Int):dI g (.int a) (.int b)=some (.int (g a b)):=rfl
@[simp] theorem VZ (g:Int->Int->Bool) (a b:Int):dIB g (.int a) (.int b)=some (.bl (g a b)):=rfl
@[simp] theorem Wh (a b:Int):mv (.int a) (.int b)=some (.bl (!(a==b))):=rfl
@[simp] theorem Wi (a b:Int):kx (.int a) (.int b)=some (.bl (a==b)):=rfl
@[simp] theorem V0 (a b:Bool):mv (.bl a) (.bl b)=some (.bl (!(a==b))):=rfl
@[simp] theorem V1 (a b:Bool):kx (.bl a) (.bl b)=some (.bl (a==b)):=rfl
@[simp] theorem Vn (a b:Bool):C_ (.bl a) (.bl b)=some (.bl (a != b)):=rfl
@[simp] theorem V2 (a b:Bool):UW (.bl a) (.bl b)=some (.bl (a==b)):=rfl
@[simp] theorem V3 (ds:List Dt) (i:Int):dIx (.tup ds) (.int i)=atI ds i:=rfl
@[simp] theorem V4 (ds:List Dt) (i:Int):dIx (.lst ds) (.int i)=atI ds i:=rfl
@[simp] theorem V5 (x y:Dt):atI [x,y] 0=some x:=rfl
@[simp] theorem V6 (x y:Dt):atI [x,y] 1=some y:=rfl
@[simp] theorem KD (l:List Bool):Dn [.lst (l.map .bl)]=some (.bl (l.all id)):=by show(Iu (l.map .bl)).map _=_;rw[Dl];rfl
end
open PySem PySem.Spec PyProof.Rows Zp
abbrev iM (k:Nat):Dt:=.int k
def jD (p:Nat×Nat):Dt:=.tup [iM p.1,iM p.2]
abbrev kc (l:iI):Dt:=.tup (l.map jD)
def i8 (w:Nat×iI):Dt:=.tup [iM w.1,kc w.2]
def ju:Dt->iA Nat
 | .int i=>if 0<=i then some i.toNat else none
 | _=>none
theorem jo {d:Dt}{k:Nat}(h:ju d=some k):d=iM k:=by cases d<;>simp[ju]at h;rw[<-h.2,iM];congr 1;lia
@[simp] theorem jk (k:Nat):ju (iM k)=some k:=by simp[ju,iM]
def Qp {α:Type}(F:Dt->Dt->iA α):List Dt->iA α
 | [x,y]=>F x y
 | _=>none
theorem Dy {α:Type}{F:Dt->Dt->iA α}{l:List Dt}{d:α}(e:Qp F l=some d):∃ x y,l=[x,y]/\F x y=some d:=by
 cases l with
 | nil=>cases e
 | cons x r=>cases r with
  | nil=>cases e
  | cons y z=>cases z with
   | nil=>exact⟨x,y,rfl,e⟩
   | cons _ _=>cases e
def dNP (d:Dt):iA (Nat×Nat):=(xJ d).bind (Qp λ x y=>(ju x).bind λ a=>(ju y).map λ b=>(a,b))
theorem M0 {d:Dt}{p:Nat×Nat}(h:dNP d=some p):d=jD p:=by obtain⟨l,e0,h⟩:=iP h;obtain⟨x,y,rfl,h⟩:=Dy h;obtain⟨a,e1,h⟩:=iP h;obtain⟨b,e2,h⟩:=jr h;subst h;rw[pf e0,jo e1,jo e2];rfl
@[simp] theorem M3 (p:Nat×Nat):dNP (jD p)=some p:=by show(ju (iM p.1)).bind (λ a=>(ju (iM p.2)).map λ b=>(a,b))=_;rw[jk,jk];rfl
def Iw:List Dt->iA iI
 | []=>some []
 | d::ds=>(dNP d).bind λ i=>(Iw ds).map (i::·)
theorem um:∀ {ds:List Dt} {l:iI},Iw ds=some l->ds=l.map jD
 | [],l,h=>by cases h;rfl
 | d::ds,l,h=>by obtain⟨i,e1,h⟩:=iP h;obtain⟨r,e2,h⟩:=jr h;subst h;rw[M0 e1,um e2];rfl
@[simp] theorem yB (l:iI):Iw (l.map jD)=some l:=by
 induction l with
 | nil=>rfl
 | cons i r ih=>show(dNP (jD i)).bind (λ i=>(Iw (r.map jD)).map (i::·))=_;rw[ih,M3];rfl
def dTs (d:Dt):iA iI:=(Ff d).bind Iw
def dTt (d:Dt):iA iI:=(xJ d).bind Iw
theorem GX {d:Dt}{l:iI}(h:dTt d=some l):d=kc l:=by obtain⟨ds,e,h⟩:=iP h;rw[pf e,um h]
@[simp] theorem GY (l:iI):dTt (kc l)=some l:=yB l
theorem M4 {d:Dt}{l:iI}(h:dTs d=some l):d=kc l\/d=.lst (l.map jD):=by
 obtain⟨ds,e,h⟩:=iP h;rcases ui e with rfl | rfl
 ·exact .inl (by rw[um h])
 ·exact .inr (by rw[um h])
@[simp] theorem Uv (l:iI):dTs (.lst (l.map jD))=some l:=yB l
@[simp] theorem xp (l:iI):dTs (kc l)=some l:=yB l
def nbI (l:iI)(p:Nat):List Int:=srt ((l.filter λ t=>t.2==p).map (λ t=>(t.1:Int))++(l.filter λ t=>t.1==p).map λ t=>(t.2:Int))
def nb (l:iI)(p:Nat):List Nat:=(nbI l p).map Int.toNat
theorem Dz (l:iI)(p:Nat):(nbI l p).Perm ((l.filter λ t=>t.2==p).map (λ t=>(t.1:Int))++(l.filter λ t=>t.1==p).map λ t=>(t.2:Int)):=Ds _
theorem uo (l:iI)(p:Nat):(nb l p).Perm ((l.filter λ t=>t.2==p).map (·.1)++(l.filter λ t=>t.1==p).map (·.2)):=by have:=(Dz l p).map Int.toNat;unfold nb;simpa [a7,eM] using this
theorem Qq (l:iI)(p:Nat):nbI l p=(nb l p).map λ(k:Nat)=>(k:Int):=by
 unfold nb;rw[aH];conv=>lhs;rw[<-ip (nbI l p)]
 refine aK λ x hx=>?_;have h:=(Dz l p).mem_iff.mp hx;have:0<=x:=by rcases bG.mp h with h | h<;>(obtain⟨t,_,rfl⟩:=aD.mp h;lia)
 simp;lia
def oA (fd:iI)(k:Nat):Bool:=fd.any λ q=>q.1==k
def look (fd:iI)(k:Nat):Nat:=(fd.lookup k).getD 0
def jI (place:Nat)(st:iI×List Nat)(near:Nat):iI×List Nat:=if oA st.1 near=true then st else (st.1++[(near,look st.1 place+1)],st.2++[near])
def visit (l:iI)(st:iI×List Nat)(place:Nat):iI×List Nat:=(nb l place).foldl (jI place) st
def kh (l:iI)(fd:iI)(jq:List Nat):iI×List Nat:=jq.foldl (visit l) (fd,[])
def mG (l:iI):Nat->iI->List Nat->iI
 | 0,fd,_=>fd
 | _+1,fd,[]=>fd
 | k+1,fd,e::es=>mG l k (kh l fd (e::es)).1 (kh l fd (e::es)).2
def bfs (l:iI)(s:Nat):iI:=mG l (2*l.length+2) [(s,0)] [s]
def j5 (fd:iI):List (Int×Int):=fd.map λ q=>((q.1:Int),(q.2:Int))
def qN (p q:Nat×Nat):Bool:=HT.lexLt [(p.1:Int),(p.2:Int)] [(q.1:Int),(q.2:Int)]
def rise (l:iI):Bool:=(l.zip l.tail).all λ pq=>qN pq.1 pq.2
structure Good (w:Nat×iI):Prop where
 two:2<=w.1
 km:w.1<=8
 ok:∀ p∈w.2,p.1<p.2/\p.2<w.1
 rise:rise w.2=true
 all:(bfs w.2 0).length=w.1
 len:w.2.length<=30
 ne:w.2≠[]
def DA (w:Nat×iI):Bool:=decide (2<=w.1/\w.1<=8)&&(w.2.all λ p=>decide (p.1<p.2/\p.2<w.1))&&rise w.2&&decide ((bfs w.2 0).length=w.1)&&decide (w.2.length<=30)&&!w.2.isEmpty
theorem AF (w:Nat×iI):DA w=true↔Good w:=by
 unfold DA;simp only[cS,decide_eq_true_eq,dz,Bool.not_eq_true',List.isEmpty_eq_false_iff];constructor
 ·rintro⟨⟨⟨⟨⟨h1,h2⟩,h3⟩,h4⟩,h5⟩,h6⟩;exact⟨h1.1,h1.2,h2,h3,h4,h5,h6⟩
 ·rintro⟨h1,h1',h2,h3,h4,h5,h6⟩;exact⟨⟨⟨⟨⟨⟨h1,h1'⟩,h2⟩,h3⟩,h4⟩,h5⟩,h6⟩
def dW (d:Dt):iA (Nat×iI):=(xJ d).bind (Qp λ x y=>(ju x).bind λ n=>(dTt y).bind λ l=>if DA (n,l)=true then some (n,l) else none)
theorem kd {d:Dt}{w:Nat×iI}(h:dW d=some w):d=i8 w/\Good w:=by
 obtain⟨l,e0,h⟩:=iP h;obtain⟨x,y,rfl,h⟩:=Dy h;obtain⟨a,e1,h⟩:=iP h;obtain⟨b,e2,h⟩:=iP h;by_cases hg:DA (a,b)=true
 ·rw[af hg]at h;cases h;rw[pf e0,jo e1,GX e2];exact⟨rfl,(AF _).mp hg⟩
 ·rw[ah hg]at h;cases h
theorem kf {w:Nat×iI}(h:Good w):dW (i8 w)=some w:=by show(ju (iM w.1)).bind (λ n=>(dTt (kc w.2)).bind λ l=>if DA (n,l)=true then some (n,l) else none)=_;rw[jk,GY,ae,ae,af ((AF _).mpr h)]
def mM (l:List Dt):iA Dt:=(pr2 l).map λ t=>.bl (decide (0<=t.2)&&decide (t.2<t.1))
@[simp] theorem Qr (n p:Int):mM [.int n,.int p]=some (.bl (decide (0<=p)&&decide (p<n))):=rfl
def qO:List Dt->iA Dt:=yu λ x y=>(zZ x).bind λ n=>(dPr y).map λ t=>.bl ((decide (0<=t.1)&&decide (t.1<n))&&((decide (0<=t.2)&&decide (t.2<n))&&decide (t.1<t.2)))
@[simp] theorem Sz (n a b:Int):qO [.int n,.tup [.int a,.int b]]=some (.bl ((decide (0<=a)&&decide (a<n))&&((decide (0<=b)&&decide (b<n))&&decide (a<b)))):=rfl
def mS:List Dt->iA Dt
 | [x]=>(dTt x).bind λ l=>if l.length<=1000/\l≠[] then some (.bl (rise l)) else none
 | _=>none
def l7:List Dt->iA Dt
 | [x,y]=>(dTs x).bind λ l=>(ju y).bind λ p=>if l.length<=30 then some (.tup ((nb l p).map iM)) else none
 | _=>none
def l8:List Dt->iA Dt
 | [x,y]=>(dTs x).bind λ l=>(ju y).bind λ p=>if l.length<=30 then some (.dct (j5 (bfs l p))) else none
 | _=>none
def r_ (w:Nat×iI):List Nat:=(List.range w.1).map λ p=>(nb w.2 p).length
def rR:List Dt->iA Dt
 | [x]=>(dW x).map λ w=>.lst ((r_ w).map iM)
 | _=>none
def uq:List Dt->iA Dt
 | [x]=>(dW x).map λ _=>.bl true
 | _=>none
def l9:List Dt->iA Dt
 | [x]=>(dW x).map λ _=>.non
 | _=>none
def j6:List Dt->iA Dt
 | [x,y]=>(dW x).bind λ w=>(ju y).bind λ p=>if p<w.1 then some .non else none
 | _=>none
def z5 (l:List Dt):iA Dt:=(pr2 l).bind λ t=>if 0<=t.1/\t.1<=t.2 then some .non else none
@[simp] theorem Qt (k m:Int):z5 [.int k,.int m]=if 0<=k/\k<=m then some .non else none:=rfl
def sO:DE->iA RD:=(jJ (w6 (iT 1 k9 (iL (iN 1) iQ)) (vz (dIB λ i j=>decide (i<=j)) (dIB λ i j=>decide (i<j)) (gC (.int 0)) (iN 1) (iN 0))))
abbrev Fp:List Str:=["many","thing"]
def yC:DE->iA RD:=(jL (ng (qp (kX (gTr (jF uk (iL (iN 1) (iL (gC (.ty "tuple")) iQ))))) (gB (iY mv (jF om (iL (iN 1) iQ)) (gC (.int 2))))) (jJ (gC (.bl false))) kT) (jL (ue (kY 2 3) (iN 1)) (jJ (w6 (iT 2 mM (iL (iN 0) (iL (iN 2) iQ))) (w6 (iT 2 mM (iL (iN 0) (iL (iN 3) iQ))) (iY (dIB λ i j=>decide (i<j)) (iN 2) (iN 3)))))))
abbrev KG:List Str:=["many","thing","a","b"]
def qP:DE->iA RD:=(jJ (jF Dn (iL (gLC ["one","following"] [] (Fg true true (iL (iN 0) (iL (Ky (iN 0)) iQ))) (kY 0 1) kA (iY Km (iN 0) (iN 1))) iQ)))
abbrev DB:List Str:=["things"]
def rS:DE->iA RD:=(jL (kZ 2 (gLC ["a","b"] [1] (gI lZ (iN 0)) (kY 0 1) (gB (iY kx (iN 1) (iN 2))) (iN 0))) (jL (kZ 3 (gLC ["a","b"] [1] (gI lZ (iN 0)) (kY 0 1) (gB (iY kx (iN 0) (iN 2))) (iN 1))) (jJ (jF pN (iL (jF (Bs srt) (iL (iY De (iN 2) (iN 3)) iQ)) iQ)))))
abbrev Iy:List Str:=["ties","place","lesser","greater"]
def vH:DE->iA RD:=(jL (ue (kY 1 2) (iN 0)) (jJ (gLC ["place"] [2] (qL (iL (iN 1) iQ)) (ggN 0) kA (jF om (iL (iT 2 l7 (iL (iN 1) (iL (iN 0) iQ))) iQ)))))
abbrev Iz:List Str:=["web","many","ties"]
def yD:DE->iA RD:=(jL (ng (qp (kX (gTr (jF uk (iL (iN 0) (iL (gC (.ty "tuple")) iQ))))) (gB (iY mv (jF om (iL (iN 0) iQ)) (gC (.int 2))))) (jJ (gC (.bl false))) kT) (jL (ue (kY 1 2) (iN 0)) (jL (ng (qp (kX (gTr (iT 1 k9 (iL (iN 1) iQ)))) (kX (gB (vz (dIB λ i j=>decide (i<=j)) (dIB λ i j=>decide (i<=j)) (gC (.int 2)) (iN 1) (gC (.int 8)))))) (jJ (gC (.bl false))) kT) (jL (ng (qp (kX (gTr (jF uk (iL (iN 2) (iL (gC (.ty "tuple")) iQ))))) (kX (gTr (jF Dn (iL (gLC ["tie"] [1] (gI lZ (iN 2)) (ggN 0) kA (iT 2 qO (iL (iN 1) (iL (iN 0) iQ)))) iQ))))) (jJ (gC (.bl false))) kT) (jJ (w6 (iT 1 mS (iL (iN 2) iQ)) (iY kx (jF Kt (iL (iT 2 l8 (iL (iN 2) (iL (gC (.int 0)) iQ))) iQ)) (iN 1))))))))
abbrev KH:List Str:=["thing","many","ties"]
def qQ:DE->iA RD:=(ng (kX (gTr (iT 1 uq (iL (iN 0) iQ)))) sM kT)
abbrev DC:List Str:=["thing"]
def oT:DE->iA RD:=(ng (kX (gTr (iT 2 mM (iL (iY dIx (iN 0) (gC (.int 0))) (iL (iN 1) iQ))))) sM kT)
abbrev z6:List Str:=["web","thing"]
theorem DD:Hg 2 Fp mM sO:=by
 intro ds d hl h;obtain⟨⟨n,p⟩,e1,e2⟩:=jr h;obtain rfl:=rQ e1
 ·cases e2;clear h e1;refine⟨.rt (.bl (decide (0<=p)&&decide (p<n))),?_,rfl⟩;simp[sO];by_cases h:0<=p<;>simp[h]
theorem IA:Hg 2 KG qO yC:=by
 intro ds d hl h;obtain⟨x,y,rfl,h1⟩:=pd h;obtain⟨n,e1,h2⟩:=iP h1;obtain⟨⟨a,b⟩,e2,h3⟩:=jr h2;obtain rfl:=o9 e1;obtain rfl:=GR e2
 ·cases h3;clear h h1 h2 e1 e2;refine⟨.rt (.bl ((decide (0<=a)&&decide (a<n))&&((decide (0<=b)&&decide (b<n))&&decide (a<b)))),?_,rfl⟩;simp[yC];by_cases h:0<=a/\a<n<;>by_cases h':0<=b/\b<n<;>simp[h,h']
theorem M5 (l:iI):((l.map jD).zip (l.tail.map jD)).map (λ(p,q)=>Dt.tup [p,q])=(l.zip l.tail).map λ pq=>Dt.tup [jD pq.1,jD pq.2]:=by rw[List.zip_map,aH];rfl
set_option tactic.hygienic true in
theorem Bx:Hg 1 DB mS qP:=by
 intro ds d hl h;match ds,h with
 | [x],h =>
  obtain⟨l,e1,h⟩:=iP (show(dTt x).bind _=_ from h);split at h
  ·rename_i hc
   cases h;rw[GX e1];refine⟨.rt (.bl (rise l)),?_,rfl⟩;match l,hc.2,hc.1 with
   | p::t,_,hlen =>
    have lc:=jZ (enc:=λ pq:(Nat×Nat)×(Nat×Nat)=>Dt.tup [jD pq.1,jD pq.2]) (gg:=kY 0 1) (ge:=iY Km (iN 0) (iN 1)) (δc:=[none,none]) (δa:=λ pq=>[some (jD pq.1),some (jD pq.2)]) (enc':=λ pq=>.bl (qN pq.1 pq.2)) ((p::t).zip t) λ a _=>⟨rfl,by simp[jD,iM,Km,kU,zZ,qN]⟩
    have ez:=M5 (p::t);have e2:((p::t).zip t).map (λ pq=>Dt.bl (qN pq.1 pq.2))=(((p::t).zip t).map λ pq=>qN pq.1 pq.2).map Dt.bl:=by simp
    rw[e2]at lc;have e3:(((p::t).zip t).map λ pq=>qN pq.1 pq.2).all id=rise (p::t):=by simp[rise,gH,eM]
    have e4:((p::t).zip t).length<=1000:=by rw[fA];lia
    simp only[aq,List.tail_cons]at ez;have e5:((jD p::t.map jD).zip (t.map jD)).map (λ(p,q)=>Dt.tup [p,q])=((p::t).zip t).map λ pq=>Dt.tup [jD pq.1,jD pq.2]:=ez;have e6:Fd true true [kc (p::t),.tup (t.map jD)]=some (((p::t).zip t).map λ pq=>Dt.tup [jD pq.1,jD pq.2]):=by rw[<-e5];rfl
    have e7:Dc (kc (p::t))=some (.tup (t.map jD)):=rfl;generalize ((p::t).zip t).map (λ pq=>qN pq.1 pq.2)=bs at lc e3;generalize hzs:((p::t).zip t).map (λ pq=>Dt.tup [jD pq.1,jD pq.2])=zs at lc e6;have e8:zs.length<=1000:=by rw[<-hzs,ag];exact e4
    simp[qP,e7,e6,e8,lc,e3]
  ·cases h
theorem kN (a b:Nat):((a:Int)==(b:Int))=(a==b):=by rw[bH];simp;lia
set_option tactic.hygienic true in
theorem Fq:Hg 2 Iy l7 rS:=by
 intro ds d hl h;match ds,h with
 | [x,y],h =>
  obtain⟨l,e1,h⟩:=iP (show(dTs x).bind _=_ from h);obtain⟨p,e2,h⟩:=iP h;split at h
  ·rename_i hc
   cases h;rw[jo e2];refine⟨.rt (.tup ((nb l p).map iM)),?_,rfl⟩;have lc1:=kl (enc:=jD) (gg:=kY 0 1) (gt:=gB (iY kx (iN 1) (iN 2))) (ge:=iN 0) (δc:=[none,none,some (iM p)]) (δa:=λ t=>[some (iM t.1),some (iM t.2),some (iM p)]) (p:=λ t=>t.2==p) (enc':=λ t=>iM t.1) l λ a _=>⟨rfl,by simp[iM,kN],λ _=>rfl⟩
   have lc2:=kl (enc:=jD) (gg:=kY 0 1) (gt:=gB (iY kx (iN 0) (iN 2))) (ge:=iN 1) (δc:=[none,none,some (iM p)]) (δa:=λ t=>[some (iM t.1),some (iM t.2),some (iM p)]) (p:=λ t=>t.1==p) (enc':=λ t=>iM t.2) l λ a _=>⟨rfl,by simp[iM,kN],λ _=>rfl⟩
   have hlen:l.length<=1000:=by lia
   have f1:=fS (λ t:Nat×Nat=>t.2==p) l;have f2:=fS (λ t:Nat×Nat=>t.1==p) l;have e5:((l.filter λ t=>t.2==p).map (λ t=>iM t.1))++((l.filter λ t=>t.1==p).map λ t=>iM t.2)=((l.filter λ t=>t.2==p).map (λ t=>(t.1:Int))++(l.filter λ t=>t.1==p).map λ t=>(t.2:Int)).map Dt.int:=by simp[iM,eM]
   have e6:De (.lst ((l.filter λ t=>t.2==p).map (λ t=>iM t.1))) (.lst ((l.filter λ t=>t.1==p).map λ t=>iM t.2))=some (.lst (((l.filter λ t=>t.2==p).map (λ t=>(t.1:Int))++(l.filter λ t=>t.1==p).map λ t=>(t.2:Int)).map Dt.int)):=by show(if _ then some (Dt.lst _) else none)=_;rw[af (by simp only[ag];lia),e5]
   have e7:Bs srt [.lst (((l.filter λ t=>t.2==p).map (λ t=>(t.1:Int))++(l.filter λ t=>t.1==p).map λ t=>(t.2:Int)).map Dt.int)]=some (.lst ((nb l p).map iM)):=by show(if _ then _ else none)=_;rw[af (by simp only[ag,aT];lia),o_];have:=Qq l p;unfold nbI at this;rw[bP,this,aH];rfl
   generalize ((l.filter λ t=>t.2==p).map (λ t=>(t.1:Int))++(l.filter λ t=>t.1==p).map λ t=>(t.2:Int)).map Dt.int=zs at e6 e7;generalize ((l.filter λ t=>t.2==p).map (λ t=>iM t.1))=xs at lc1 e6;generalize ((l.filter λ t=>t.1==p).map (λ t=>iM t.2))=ys at lc2 e6;rcases M4 e1 with rfl | rfl
   ·simp[rS,lc1,lc2,hlen,e6,e7]
   ·simp[rS,lc1,lc2,hlen,e6,e7]
  ·cases h
theorem nW {n:Nat}(h:n<=1000000):yo [iM n]=some ((List.range n).map λ(i:Nat)=>iM i):=by show(if (n:Int)<=1000000/\-1000000<=(n:Int) then some ((List.range (n:Int).toNat).map λ(i:Nat)=>Dt.int i) else none)=_;rw[af (by lia),bQ]
theorem M6 {l:iI}(h:l.length<=30)(p:Nat):l7 [kc l,iM p]=some (.tup ((nb l p).map iM)):=by show(dTs (kc l)).bind (λ l=>(ju (iM p)).bind λ p=>if l.length<=30 then some (Dt.tup ((nb l p).map iM)) else none)=_;rw[xp,jk,ae,ae,af h]
theorem DF {x:Dt}{l:iI}(e:dTs x=some l)(h:l.length<=30)(p:Nat):l7 [x,iM p]=some (.tup ((nb l p).map iM)):=by show(dTs x).bind (λ l=>(ju (iM p)).bind λ p=>if l.length<=30 then some (Dt.tup ((nb l p).map iM)) else none)=_;rw[e,jk,ae,ae,af h]
theorem Fs:Hg 1 Iz rR vH:=by
 intro ds d hl h;match ds,h with
 | [x],h =>
  obtain⟨w,e1,h⟩:=jr (show(dW x).map _=_ from h);subst h;obtain⟨rfl,hg⟩:=kd e1;refine⟨.rt (.lst ((r_ w).map iM)),?_,rfl⟩;have lc:=jZ (enc:=λ i:Nat=>iM i) (gg:=ggN 0) (ge:=jF om (iL (iT 2 l7 (iL (iN 1) (iL (iN 0) iQ))) iQ)) (δc:=[none,some (kc w.2)]) (δa:=λ i=>[some (iM i),some (kc w.2)]) (enc':=λ i=>iM (nb w.2 i).length) (List.range w.1) λ a _=>⟨rfl,by simp[M6 hg.len]⟩
  have h8:=hg.km;simp[vH,i8,nW (show w.1<=1000000 by lia),lc,r_,eM];lia
theorem IB:Hg 1 KH uq yD:=by
 intro ds d hl h;match ds,h with
 | [x],h =>
  obtain⟨w,e1,h⟩:=jr (show(dW x).map _=_ from h);subst h;obtain⟨rfl,hg⟩:=kd e1;refine⟨.rt (.bl true),?_,rfl⟩;have lc:=jZ (enc:=jD) (gg:=ggN 0) (ge:=iT 2 qO (iL (iN 1) (iL (iN 0) iQ))) (δc:=[none,some (iM w.1)]) (δa:=λ t=>[some (jD t),some (iM w.1)]) (enc':=λ _=>.bl true) w.2 λ a ha=>⟨rfl,by
   have:=hg.ok a ha;have h1:((a.1:Int)<w.1):=by lia
   have h2:((a.2:Int)<w.1):=by lia
   have h3:((a.1:Int)<a.2):=by lia
   simp[jD,iM,h1,h2,h3]⟩
  have e3:(w.2.map λ _=>Dt.bl true)=(w.2.map λ _=>true).map Dt.bl:=by simp
  rw[e3]at lc;have e4:(w.2.map λ _=>true).all id=true:=by simp
  generalize (w.2.map λ _=>true)=bs at lc e4;have e5:mS [kc w.2]=some (.bl true):=by show(dTt (kc w.2)).bind _=_;rw[GY,ae,af ⟨by have:=hg.len;lia,hg.ne⟩,hg.rise]
  have e6:l8 [kc w.2,iM 0]=some (.dct (j5 (bfs w.2 0))):=by show(dTs (kc w.2)).bind (λ l=>(ju (iM 0)).bind λ p=>if l.length<=30 then some (Dt.dct (j5 (bfs l p))) else none)=_;rw[xp,jk,ae,ae,af hg.len]
  have e7:(j5 (bfs w.2 0)).length=w.1:=by rw[j5,ag,hg.all]
  have h2:(2:Int)<=w.1:=by have:=hg.two;lia
  have h8:(w.1:Int)<=8:=by have:=hg.km;lia
  have h30:w.2.length<=1000:=by have:=hg.len;lia
  have e6:l8 [Dt.tup (w.2.map jD),Dt.int 0]=some (.dct (j5 (bfs w.2 0))):=e6;have e5:mS [Dt.tup (w.2.map jD)]=some (.bl true):=e5;simp only[iM]at lc;simp[yD,i8,iM,h2,h8,lc,e4,e5,e6,e7,h30]
theorem By:Hg 1 DC l9 qQ:=by
 intro ds d hl h;match ds,h with
 | [x],h =>obtain⟨w,e1,h⟩:=jr (show(dW x).map _=_ from h);subst h;refine⟨.nx [some x],?_,rfl⟩;simp[qQ,uq,e1]
set_option tactic.hygienic true in
theorem yE:Hg 2 z6 j6 oT:=by
 intro ds d hl h;match ds,h with
 | [x,y],h =>
  obtain⟨w,e1,h⟩:=iP (show(dW x).bind _=_ from h);obtain⟨p,e2,h⟩:=iP h;split at h
  ·rename_i hc
   cases h;obtain⟨rfl,hg⟩:=kd e1;rw[jo e2];refine⟨.nx [some (i8 w),some (iM p)],?_,rfl⟩;have:(p:Int)<w.1:=by lia
   simp[oT,i8,iM,this]
  ·cases h
abbrev Web:=Nat×iI
def goQ (w:Web)(l:List Rat):List Rat:=(l.zip (r_ w)).map λ qd=>qd.1*Rat.divInt 1 qd.2
def DG (w:Web)(l:List Rat)(p:Nat):List Rat:=(nb w.2 p).map λ j=>(goQ w l).getD j 0
def SA (w:Web)(l:List Rat):List Rat:=(List.range w.1).map λ p=>(DG w l p).sum
structure Vo (w:Web)(l:List Rat):Prop where
 len:l.length=w.1
 deg:∀ d∈r_ w,0<d/\d<=1000
 sm:∀ q∈l,sm q
 nb:∀ p<w.1,∀ j∈nb w.2 p,j<w.1
 tot:∀ p<w.1,vF 0 (DG w l p)=some (DG w l p).sum
def M7 (w:Web)(l:List Rat):Bool:=decide (l.length=w.1)&&((r_ w).all λ d=>decide (0<d/\d<=1000))&&(l.all λ q=>decide (sm q))&&((List.range w.1).all λ p=>(nb w.2 p).all λ j=>decide (j<w.1))&&((List.range w.1).all λ p=>decide (vF 0 (DG w l p)=some (DG w l p).sum))
def dQt:Dt->iA (List Rat)
 | .tup ds=>dQs ds
 | _=>none
theorem nF {d:Dt}{l:List Rat}(h:dQt d=some l):d=.tup (l.map iO):=by
 match d,h with
 | .tup ds,h=>rw[xo (show dQs ds=some l from h)]
@[simp] theorem nG (l:List Rat):dQt (.tup (l.map iO))=some l:=Bt l
def DI:List Dt->iA Dt
 | [x,y]=>(dW x).bind λ w=>(dQt y).bind λ l=>if M7 w l=true then some (.tup ((SA w l).map iO)) else none
 | _=>none
abbrev l_:=qM
abbrev kJ:=my
abbrev rV:=jT
def we:DE->iA RD:=(jJ (iT 2 rV (iL (iY (dI (·+·)) (iY mL (iY dIx (iN 0) (gC (.int 0))) (iY dIx (iN 1) (gC (.int 1)))) (iY mL (iY dIx (iN 1) (gC (.int 0))) (iY dIx (iN 0) (gC (.int 1))))) (iL (iY mL (iY dIx (iN 0) (gC (.int 1))) (iY dIx (iN 1) (gC (.int 1)))) iQ))))
abbrev DJ:List Str:=["_law_one","_law_other"]
def ur:DE->iA RD:=(jJ (iT 2 rV (iL (iY mL (iY dIx (iN 0) (gC (.int 0))) (iY dIx (iN 1) (gC (.int 0)))) (iL (iY mL (iY dIx (iN 0) (gC (.int 1))) (iY dIx (iN 1) (gC (.int 1)))) iQ))))
abbrev Bz:List Str:=["_law_one","_law_other"]
theorem BA:∀ (l l':List Rat),Bq (l.map iO) (l'.map iO)=true
 | [],_=>by cases ‹List Rat›<;>rfl
 | _::_,[]=>rfl
 | a::r,b::r'=>by show(sh2 (iO a) (iO b)&&Bq (r.map iO) (r'.map iO))=true;rw[BA r r'];rfl
theorem yF (a b:Rat):dEq (iO a) (iO b)=decide (a=b):=by
 have:dEq (iO a) (iO b)=((a.num==b.num)&&(((a.den:Int)==(b.den:Int))&&true)):=by simp[iO,dEq,o8]
 rw[this,bH];simp;constructor
 ·rintro⟨h1,h2⟩;exact Rat.ext h1 (by lia)
 ·rintro rfl;exact⟨rfl,rfl⟩
theorem vI:∀ (l l':List Rat),o8 (l.map iO) (l'.map iO)=decide (l=l')
 | [],[]=>by simp[o8]
 | [],_::_=>by simp[o8]
 | _::_,[]=>by simp[o8]
 | a::r,b::r'=>by
  have:o8 ((a::r).map iO) ((b::r').map iO)=(dEq (iO a) (iO b)&&o8 (r.map iO) (r'.map iO)):=by simp[o8]
  rw[this,yF,vI r r',bH];simp
@[simp] theorem SD (l l':List Rat):kx (.tup (l.map iO)) (.tup (l'.map iO))=some (.bl (decide (l=l'))):=by unfold kx;rw[af (show sh3 (.tup (l.map iO)) (.tup (l'.map iO))=true from BA l l'),uf,vI]
@[simp] theorem SE (l l':List Rat):mv (.tup (l.map iO)) (.tup (l'.map iO))=some (.bl (!decide (l=l'))):=by unfold mv;rw[af (show sh3 (.tup (l.map iO)) (.tup (l'.map iO))=true from BA l l'),uf,vI]
theorem Qu (a b:Rat):kx (iO a) (iO b)=some (.bl (decide (a=b))):=by unfold kx;rw[af (show sh3 (iO a) (iO b)=true from rfl),yF]
theorem IC (a b:Rat):mv (iO a) (iO b)=some (.bl (!decide (a=b))):=by unfold mv;rw[af (show sh3 (iO a) (iO b)=true from rfl),yF]
theorem DK (w:Web):(r_ w).length=w.1:=by simp[r_]
theorem KJ {l:List Rat}{n:Nat}(h:l.length=n)(h':n<=1000):kM [.tup (l.map iO),iM n]=some (.bl true):=by show(dQs (l.map iO)).bind _=_;rw[Bt,ae,af ⟨by lia,by lia⟩]
theorem getD_at {l:List Rat}{j:Nat}(h:j<l.length):atI (l.map iO) (j:Int)=some (iO (l.getD j 0)):=by have:=lx (xs:=l.map iO) (j:=j) (v:=iO l[j]) (by simp[h]);rw[this,au,aC h];rfl
theorem BB {w:Web}(e:dW (i8 w)=some w):l9 [i8 w]=some .non:=by show(dW (i8 w)).map _=_;rw[e];rfl
theorem ph {w:Web}(e:dW (i8 w)=some w){p:Nat}(h:p<w.1):j6 [i8 w,iM p]=some .non:=by show(dW (i8 w)).bind (λ w=>(ju (iM p)).bind λ p=>if p<w.1 then some Dt.non else none)=_;rw[e,jk,ae,ae,af h]
theorem BC:Hg 2 DJ l_ we:=GW
theorem z7:Hg 2 Bz kJ ur:=Dx
def OH (K:iF)(J:It)(H:Hp)(ds:List Dt):Prop:=∀ H',jY H H'->(∀ (i:Nat) d,ds[i]?=some d->J.go i H'/\∀ x H'',J.yld i H' x H''->H''=H'/\Is K H'' x d)/\J.stop ds.length H'
def iDT (K:iF)(g:DE->iA (List Dt)):TI:=λ σ H R=>∃ δ ds,Sat K H σ δ/\g δ=some ds/\oP ds/\∀ J H',iZ H H'->OH K J H' ds->R J H'
section
variable {X:Cx}{e:Expr}{tg:Expr}
theorem GZ {g:DE->iA Dt}(h:PD X e g):PI X tg e (iDT X.K (gI ud g)):=(Js h).of λ σ H R hz1=>by obtain⟨δ,ds,S,q,im,k⟩:=hz1;obtain⟨x,e1,e2⟩:=iP q;have e2:=vC e2;subst e2;refine⟨δ,_,S,e1,λ v H1 s1 i1=>?_⟩;obtain⟨a,xs,rfl,hq,is⟩:=i1.jy;refine⟨a,rfl,⟨xs,hq⟩,k _ H1 s1 λ H2 s2=>⟨λ i d hd=>?_,⟨xs,s2.t_ hq,by rw[is.length];exact ak _⟩⟩⟩;have is2:=is.text s2 im;obtain⟨v,hv,iv⟩:=is2.get hd;exact⟨⟨xs,v,s2.t_ hq,hv⟩,λ x H3 hz2=>by obtain⟨e3,y⟩:=hz2;subst e3;have:=y xs (s2.t_ hq);rw[hv]at this;cases this;exact⟨rfl,iv⟩⟩
theorem DL {K:iF}{J:It}{H0:Hp}{ds:List Dt}(ok:OH K J H0 ds){g:TG}{tb:TS}{D:Ends}{σ:St}{H:Hp}(Pv:Nat->St->Hp->Prop)(h0:Pv 0 σ H)(hl:∀ i σ H,i<=ds.length->Pv i σ H->jY H0 H)
  (hs:∀ i d x σ H,ds[i]?=some d->Is K H x d->Pv i σ H->g x σ H λ σ2 H2=>tb {D with nx:=Pv (i+1),ct:=Pv (i+1),bk:=D.nx} σ2 H2) (hd:∀ σ H,Pv ds.length σ H->D.nx σ H) :
  ∃ W:Nat->Nat->St->Hp->Prop,(∃ m,W 0 m σ H)/\∀ i m σ H,W i m σ H ->
   (J.stop i H/\D.nx σ H)\/(J.go i H/\∃ N:St->Hp->Prop,(∀ σ' H',N σ' H'->∃ m',m'<m/\W (i+1) m' σ' H')/\∀ x H',J.yld i H x H'->g x σ H' λ σ2 H2=>tb {D with nx:=N,ct:=N,bk:=D.nx} σ2 H2):=by
 refine⟨λ i m σ H=>m=ds.length-i/\i<=ds.length/\Pv i σ H,⟨ds.length,by simp,bg _,h0⟩,?_⟩;rintro i m σ H ⟨rfl,hi,p⟩;obtain⟨items,stop⟩:=ok H (hl i σ H hi p);by_cases hlt:i<ds.length
 ·have hdi:ds[i]?=some ds[i]:=by simp[hlt]
  obtain⟨go,yld⟩:=items i _ hdi;refine .inr ⟨go,Pv (i+1),λ σ' H' p'=>⟨ds.length-(i+1),by lia,rfl,hlt,p'⟩,λ x H' y=>?_⟩;obtain⟨rfl,ix⟩:=yld x H' y;exact hs i _ x σ _ hdi ix p
 ·have e:i=ds.length:=by lia
  subst e;exact .inl ⟨stop,hd σ H p⟩
end
theorem nK (fd:iI)(k:Nat):oA fd k=true↔k∈fd.map (·.1):=by unfold oA;simp[fZ]
theorem uu (fd:iI)(k:Nat):nE (kvD (j5 fd)) (Sum.inl (k:Int))=if oA fd k=true then some (.int (look fd k)) else none:=by
 induction fd with
 | nil=>rfl
 | cons p r ih =>
  by_cases h:p.1=k
  ·have e1:nE (kvD (j5 (p::r))) (Sum.inl (k:Int))=some (.int p.2):=tR (p:=(Sum.inl (p.1:Int),V.int p.2)) (by rw[h])
   rw[e1];have e2:oA (p::r) k=true:=by rw[nK];simp[h]
   have e3:look (p::r) k=p.2:=by unfold look;rw[br];simp[h]
   rw[af e2,e3]
  ·have hne:¬ (Sum.inl (p.1:Int):Key)=Sum.inl (k:Int):=λ q=>h (by have:=Sum.inl.inj q;lia)
   have e1:nE (kvD (j5 (p::r))) (Sum.inl (k:Int))=nE (kvD (j5 r)) (Sum.inl (k:Int)):=by show nE ((Sum.inl (p.1:Int),V.int p.2)::kvD (j5 r)) _=_;unfold nE;rw[eu];have:decide ((Sum.inl (p.1:Int):Key)=Sum.inl (k:Int))=false:=decide_eq_false hne;simp only[this]
   have e2:oA (p::r) k=oA r k:=by unfold oA;simp[h]
   have e3:look (p::r) k=look r k:=by
    unfold look;rw[br];have:(k==p.1)=false:=by simpa using aX h
    rw[this]
   rw[e1,e2,e3,ih]
theorem KL {fd:iI}{k:Nat}(v:Nat)(h:oA fd k=false):putK (kvD (j5 fd)) (Sum.inl (k:Int)) (.int v)=kvD (j5 (fd++[(k,v)])):=by
 have e:nE (kvD (j5 fd)) (Sum.inl (k:Int))=none:=by rw[uu,h];rfl
 rw[CO _ e];simp[kvD,j5]
def univ (l:iI)(s:Nat):List Nat:=s::(l.map (·.1)++l.map (·.2))
theorem pQ {l:iI}{p j:Nat}:j∈nb l p↔(j,p)∈l\/(p,j)∈l:=by
 rw[(uo l p).mem_iff,bG,aD,aD];simp only[aY,beq_iff_eq];constructor
 ·rintro (⟨⟨a,b⟩,⟨h1,h2⟩,rfl⟩ | ⟨⟨a,b⟩,⟨h1,h2⟩,rfl⟩)
  ·simp at h2;subst h2;exact .inl h1
  ·simp at h2;subst h2;exact .inr h1
 ·rintro (h | h)
  ·exact .inl ⟨(j,p),⟨h,rfl⟩,rfl⟩
  ·exact .inr ⟨(p,j),⟨h,rfl⟩,rfl⟩
theorem G0 {l:iI}{s p j:Nat}(h:j∈nb l p):j∈univ l s:=by
 refine av _ ?_;rcases pQ.mp h with h | h
 ·exact bL _ (aD.mpr ⟨_,h,rfl⟩)
 ·exact a9 _ (aD.mpr ⟨_,h,rfl⟩)
structure BI (u:List Nat)(st:iI×List Nat):Prop where
 nd:(st.1.map (·.1)).Nodup
 sub:∀ q∈st.1,q.1∈u
 by':∀ j∈st.2,j∈st.1.map (·.1)
set_option tactic.hygienic true in
theorem AG {u:List Nat}{st:iI×List Nat}{p j:Nat}(h:BI u st)(hj:j∈u):BI u (jI p st j):=by
 unfold jI;split
 ·exact h
 ·rename_i hk
  have hk:j∉st.1.map (·.1):=λ m=>hk ((nK _ _).mpr m);refine⟨?_,?_,?_⟩
  ·rw[a7];exact Be h.nd hk
  ·intro q hq
   rcases bG.mp hq with z | z
   ·exact h.sub q z
   ·rw[bA.mp z];exact hj
  ·intro i hi
   rw[a7];rcases bG.mp hi with z | z
   ·exact bL _ (h.by' i z)
   ·rw[bA.mp z];exact a9 _ (by simp)
theorem yG {st:iI×List Nat}{p j:Nat}:(jI p st j).1.length+st.2.length=st.1.length+(jI p st j).2.length:=by unfold jI;split<;>simp<;>lia
theorem qR {st:iI×List Nat}{p j k:Nat}(h:k∈st.1.map (·.1)):k∈(jI p st j).1.map (·.1):=by
 unfold jI;split
 ·exact h
 ·rw[a7];exact bL _ h
theorem uv {α:Type}{f:iI×List Nat->α->iI×List Nat}{u:List Nat}:∀ (xs:List α) {st:iI×List Nat},(∀ x∈xs,∀ st,BI u st->BI u (f st x))->BI u st->BI u (xs.foldl f st)
 | [],_,_,h=>h
 | x::r,_,hf,h=>uv r (λ y hy=>hf y (av _ hy)) (hf x ar _ h)
theorem qS {α:Type}{f:iI×List Nat->α->iI×List Nat}(hf:∀ st x,(f st x).1.length+st.2.length=st.1.length+(f st x).2.length):∀ (xs:List α) (st:iI×List Nat),(xs.foldl f st).1.length+st.2.length=st.1.length+(xs.foldl f st).2.length
 | [],_=>rfl
 | x::r,st=>by have h1:=hf st x;have h2:=qS hf r (f st x);rw[cG];lia
theorem nM {α:Type}{f:iI×List Nat->α->iI×List Nat}(hf:∀ st x k,k∈st.1.map (·.1)->k∈(f st x).1.map (·.1)):∀ (xs:List α) (st:iI×List Nat) (k:Nat),k∈st.1.map (·.1)->k∈(xs.foldl f st).1.map (·.1)
 | [],_,_,h=>h
 | x::r,st,k,h=>nM hf r (f st x) k (hf st x k h)
theorem DM {l:iI}{s p:Nat}{st:iI×List Nat}(h:BI (univ l s) st):BI (univ l s) (visit l st p):=uv _ (λ _ hx _ hs=>AG hs (G0 hx)) h
theorem AH {l:iI}{p:Nat}(st:iI×List Nat):(visit l st p).1.length+st.2.length=st.1.length+(visit l st p).2.length:=qS (λ _ _=>yG) _ st
theorem sP {l:iI}{p:Nat}(st:iI×List Nat)(k:Nat)(h:k∈st.1.map (·.1)):k∈(visit l st p).1.map (·.1):=nM (λ _ _ _=>qR) _ st k h
theorem yH {l:iI}{s:Nat}{fd:iI}{jq:List Nat}(h:BI (univ l s) (fd,[])):BI (univ l s) (kh l fd jq):=uv _ (λ _ _ _ hs=>DM hs) h
theorem vJ {l:iI}{fd:iI}{jq:List Nat}:(kh l fd jq).1.length=fd.length+(kh l fd jq).2.length:=by have:=qS (f:=visit l) (λ st p=>AH st) jq (fd,[]);unfold kh;simpa using this
theorem BI.le {u:List Nat}{st:iI×List Nat}(h:BI u st):st.1.length<=u.length:=by
 have h1:(st.1.map (·.1)).length<=u.length:=by
  have hs:∀ x∈st.1.map (·.1),x∈u:=λ x hx=>by obtain⟨q,hq,rfl⟩:=aD.mp hx;exact h.sub q hq
  exact aU h.nd hs
 simpa using h1
theorem uw (l:iI)(s:Nat):(univ l s).length=2*l.length+1:=by simp[univ];lia
theorem M8 {k:Nat}{A:Around}(hr:lV k A):A.units<cLine:=by have:=jh hr;lia
section
variable {K:iF}
theorem DN {g:DE->iA Bool}(σ:St)(H:Hp)(Q Q':Bool->Hp->Prop)(h:∀ b H1,Q b H1->Q' b H1)(q:tDT K g σ H Q):tDT K g σ H Q':=by obtain⟨δ,b,S,e,k⟩:=q;exact⟨δ,b,S,e,λ H' s=>h b H' (k H' s)⟩
def intAt (i:Nat)(σ:St)(_:Hp):Nat:=match σ[i]? with
 | some (some (.int y))=>y.toNat
 | _=>0
theorem ux {H:Hp}{σ:St}{δ:DE}(S:Sat K H σ δ){i:Nat}{y:Nat}(h:δ[i]?=some (some (iM y)))(H':Hp):intAt i σ H'=y:=by obtain⟨v,hv,iv⟩:=S.at_ i _ h;unfold intAt;rw[hv,iv.int_inv];simp
theorem G1 (a:Int):(if a<0 then -a else a)=((a.natAbs:Nat):Int):=by split<;>lia
end
end L2
namespace L2
open PySem PySem.W PySem.Spec PyProof.Rows Tb
section
variable {X:Cx}
theorem DO:kz X (.type "range") (λ xs H Q=>∃ j:Int,xs=[V.int j]/\∀ p,H p=none->Q (.ref p) (upd H p (.rng 0 j))):=by intro pins s σ H xs us Q I r h;obtain⟨j,rfl,q⟩:=h;obtain⟨u,rfl,t,rfl⟩:=vals1 r;refine call_range_1 ?_;have hn:=I.hok.fresh (ak s.heap.objs.size);exact⟨.ref s.heap.objs.size,_,I.laid (o:=.rng 0 j) (λ b o e=>ai _ e) (ak _) ⟨_,_,_,aS _ rfl⟩,rfl,q _ hn⟩
theorem Ft (hc:X.calm=true):kz X (.type "list") (λ xs H Q=>∃ (r:Addr) (n:Nat),xs=[V.ref r]/\H r=some (.rng 0 n)/\n<=1000/\∀ p,H p=none->Q (.ref p) (upd H p (.lst ((List.range n).map λ(i:Nat)=>V.int i)))):=by
 intro pins s σ H xs us Q I r h;obtain⟨a,n,rfl,ha,hn,q⟩:=h;obtain⟨u,rfl,ru⟩:=vals1 r;cases ru;obtain⟨t,t',t'',e⟩:=I.hok a _ ha;have hsz:Builtin.Range.rangeSize 0 (n:Int) 1=n:=by rw[rangeSize_one];split<;>lia
 refine call_list_range (I.ok.hd hc) (show IsRange s.heap a 0 n 1 t t' t'' from e) (small_one (by lia) (by lia) (by lia) (by lia)) hsz (by lia) λ h' tk acc c kp ho ia=>?_;have hfr:=I.hok.fresh (ak s.heap.objs.size);refine⟨.ref s.heap.objs.size,_,I.laid (o:=.lst ((List.range n).map λ(i:Nat)=>V.int i)) kp (ak _) ⟨?_,acc.toList,c,?_,by simpa using ho⟩,rfl,q _ hfr⟩
 ·simp;rw[sizeLine_eq];lia
 ·obtain⟨i1,i2⟩:=ia
  have go:∀ (k:Nat) (l:List iG),l.length=k->(∀ (j:Nat) v,l[j]?=some v->∃ t,v=Value.int (0+(j:Int)*1) t)->Vals ((List.range k).map λ(i:Nat)=>V.int i) l:=by
   intro k;induction k with
   | zero=>intro l hl _;rw[dP.mp hl];exact .nil
   | succ k ih =>
    intro l hl hv;have e2:l=l.take k++[l[k]'(by lia)]:=by
     have h1:l.take (k+1)=l.take k++[l[k]'(by lia)]:=by rw[eT,aC (by lia)];rfl
     rw[<-h1,eZ (by lia)]
    rw[e2,fb,a7];refine Vals.append (ih _ (by rw[dZ];lia) λ j v hj=>?_) (.cons ?_ .nil)
    ·by_cases hjk:j<k
     ·rw[fx hjk]at hj;exact hv j v hj
     ·rw[bq (by rw[dZ];lia)]at hj;cases hj
    ·obtain⟨t,ht⟩:=hv k (l[k]'(by lia)) (by simp);exact⟨t,by rw[ht];congr 1;lia⟩
  exact go n acc.toList (by simpa using i1) λ j v hj=>i2 j v (by rw[<-bU];exact hj)
end
end L2
namespace L2
open PySem PySem.Spec PyProof.Rows Zp
structure Drawn (m:Nat)(cl:List Nat)(tb te:iI):Prop where
 m2:2<=m
 m8:m<=8
 perm:cl.Perm (List.range m)
 tbl:tb.length=m-1
 tbk:∀ k,k<m-1->∃ a,tb[k]?=some (a,k+1)/\a<=k
 teo:∀ t∈te,t.1<m/\t.2<m/\t.1≠t.2
 tel:te.length<=12
def rel (cl:List Nat)(t:Nat×Nat):Nat×Nat:=(min (cl.getD t.1 0) (cl.getD t.2 0),max (cl.getD t.1 0) (cl.getD t.2 0))
def keys (fd:iI):List Nat:=fd.map (·.1)
def Done (l:iI)(fd:iI)(k:Nat):Prop:=∀ j∈nb l k,j∈keys fd
set_option tactic.hygienic true in
theorem Fu {l:iI}(st:iI×List Nat)(p:Nat):Done l (visit l st p).1 p:=by
 intro j hj;unfold visit;have go:∀ (xs:List Nat) (st:iI×List Nat),j∈xs->j∈keys (xs.foldl (jI p) st).1:=by
  intro xs;induction xs with
  | nil=>intro st h;cases h
  | cons x r ih =>
   intro st h;rw[cG];rcases aN.mp h with rfl | h
   ·refine nM (λ st p k hk=>qR hk) r _ j ?_
    unfold jI;split
    ·rename_i hk;exact(nK _ _).mp hk
    ·rw[a7];exact a9 _ (by simp)
   ·exact ih _ h
 exact go _ _ hj
theorem sQ {l:iI}{fd:iI}:∀ (jq:List Nat) (st:iI×List Nat) (k:Nat),(k∈jq\/Done l st.1 k)->Done l (jq.foldl (visit l) st).1 k
 | [],st,k,h=>h.elim (λ z=>by cases z) id
 | e::r,st,k,h=>by
  rw[cG];refine sQ (fd:=fd) r (visit l st e) k ?_;rcases h with h | h
  ·rcases aN.mp h with rfl | h
   ·exact .inr (Fu st k)
   ·exact .inl h
  ·exact .inr λ j hj=>sP st j (h j hj)
set_option tactic.hygienic true in
theorem ID {l:iI}:∀ (jq:List Nat) (st:iI×List Nat) (k:Nat),k∈keys (jq.foldl (visit l) st).1->k∈keys st.1\/k∈(jq.foldl (visit l) st).2:=by
 have sub2:∀ (p:Nat) (xs:List Nat) (st:iI×List Nat) (k:Nat),k∈st.2->k∈(xs.foldl (jI p) st).2:=by
  intro p xs;induction xs with
  | nil=>intro st k h;exact h
  | cons x r ih =>
   intro st k h;rw[cG];refine ih _ k ?_;unfold jI;split
   ·exact h
   ·exact bL _ h
 have new1:∀ (p:Nat) (xs:List Nat) (st:iI×List Nat) (k:Nat),k∈keys (xs.foldl (jI p) st).1->k∈keys st.1\/k∈(xs.foldl (jI p) st).2:=by
  intro p xs;induction xs with
  | nil=>intro st k h;exact .inl h
  | cons x r ih =>
   intro st k h;rw[cG]at h ⊢;rcases ih _ k h with z | z
   ·unfold jI at z
    split at z
    ·exact .inl z
    ·rw[keys,a7]at z
     rcases bG.mp z with y | y
     ·exact .inl y
     ·refine .inr (sub2 p r _ k ?_)
      unfold jI;rename_i hk;rw[ah hk];have:k=x:=by simpa using y
      rw[this];exact a9 _ (by simp)
   ·exact .inr z
 intro jq;induction jq with
 | nil=>intro st k h;exact .inl h
 | cons e r ih =>
  intro st k h;rw[cG]at h ⊢;have sub:∀ (xs:List Nat) (st:iI×List Nat) (k:Nat),k∈st.2->k∈(xs.foldl (visit l) st).2:=by
   intro xs;induction xs with
   | nil=>intro st k h;exact h
   | cons x r ih=>intro st k h;rw[cG];exact ih _ k (sub2 x _ st k h)
  rcases ih _ k h with z | z
  ·rcases new1 e _ st k z with y | y
   ·exact .inl y
   ·exact .inr (sub r _ k y)
  ·exact .inr z
theorem pR {l:iI}{s:Nat}:∀ (m:Nat) (fd:iI) (jq:List Nat),BI (univ l s) (fd,jq)->(∀ k∈keys fd,k∈jq\/Done l fd k)->(jq≠[]->2*l.length+3<=m+fd.length) ->
  (∀ k∈keys (mG l m fd jq),Done l (mG l m fd jq) k)/\(∀ k∈keys fd,k∈keys (mG l m fd jq))/\BI (univ l s) (mG l m fd jq,[])
 | m,fd,[],bi,hd,_=>by
  have e:mG l m fd []=fd:=by cases m<;>rfl
  rw[e];exact⟨λ k hk=>(hd k hk).elim (λ z=>by cases z) id,λ k h=>h,⟨bi.nd,bi.sub,by simp⟩⟩
 | 0,fd,e::es,bi,hd,hf=>by have:=bi.le;rw[uw]at this;have h:=hf (by simp);have:fd.length<=2*l.length+1:=this;lia
 | m+1,fd,e::es,bi,hd,hf=>by
  have hf:=hf (by simp);have bi':BI (univ l s) (fd,[]):=⟨bi.nd,bi.sub,by simp⟩;have lb:=yH (jq:=e::es) bi';have ll:=vJ (l:=l) (fd:=fd) (jq:=e::es);obtain⟨h1,h2,h3⟩:=pR m (kh l fd (e::es)).1 (kh l fd (e::es)).2 ⟨lb.nd,lb.sub,lb.by'⟩ (λ k hk=>by
   rcases ID (l:=l) (e::es) (fd,[]) k hk with z | z
   ·exact .inr (sQ (fd:=fd) (e::es) (fd,[]) k (hd k z))
   ·exact .inl z) (λ hne=>by
   have:0<(kh l fd (e::es)).2.length:=dh.mpr hne;lia)
  exact⟨h1,λ k hk=>h2 k (nM (λ st p k hk=>sP st k hk) (e::es) (fd,[]) k hk),h3⟩
theorem M9 {l:iI}{n:Nat}(ok:∀ p∈l,p.1<p.2/\p.2<n)(h0:0<n)(reach:∀ S:Nat->Prop,S 0->(∀ p∈l,S p.1↔S p.2)->∀ v,v<n->S v):(bfs l 0).length=n:=by
 obtain⟨h1,h2,h3⟩:=pR (l:=l) (s:=0) (2*l.length+2) [(0,0)] [0] ⟨by simp,λ q hq=>by rw[bA.mp hq];exact ar,λ j hj=>by simpa using hj⟩ (λ k hk=>.inl (by simpa [keys] using hk)) (λ _=>by simp);have e:mG l (2*l.length+2) [(0,0)] [0]=bfs l 0:=rfl;rw[e]at h1 h2 h3;have sub:∀ k∈keys (bfs l 0),k∈List.range n:=λ k hk=>by
  obtain⟨q,hq,rfl⟩:=aD.mp hk;rw[aw];have:=h3.sub q hq;rcases aN.mp this with z | z
  ·rw[z];exact h0
  ·rcases bG.mp z with z | z<;>(obtain⟨p,hp,e⟩:=aD.mp z;have:=ok p hp;rw[<-e];lia)
 have all:=reach (λ v=>v∈keys (bfs l 0)) (h2 0 (by simp[keys])) λ p hp=>⟨λ h=>h1 _ h _ (pQ.mpr (.inr hp)),λ h=>h1 _ h _ (pQ.mpr (.inl hp))⟩;have le1:(keys (bfs l 0)).length<=(List.range n).length:=aU h3.nd sub;have le2:(List.range n).length<=(keys (bfs l 0)).length:=aU bj λ v hv=>all v (aw.mp hv);rw[bJ]at le1 le2;have:(keys (bfs l 0)).length=(bfs l 0).length:=by simp[keys]
 lia
theorem yI (p q:Nat×Nat):qN p q=true↔p.1<q.1\/(p.1=q.1/\p.2<q.2):=by
 unfold qN;by_cases h1:(p.1:Int)=q.1
 ·have h1':p.1=q.1:=by lia
  by_cases h2:(p.2:Int)=q.2
  ·have h2':p.2=q.2:=by lia
   simp[HT.lexLt,h1,h2,h1',h2']
  ·simp[HT.lexLt,h1,h2,h1']
 ·have h1':¬ p.1=q.1:=by lia
  simp[HT.lexLt,h1,h1']
theorem G2:∀ {l:iI},l.Pairwise (λ a b=>qN a b=true)->rise l=true
 | [],_=>rfl
 | [_],_=>rfl
 | a::b::r,h=>by have h1:=(fE.mp h).1 b ar;have ih:=G2 (fE.mp h).2;unfold rise at ih ⊢;simp only[List.tail_cons,eV,List.all_cons,h1,Bool.true_and]at ih ⊢;exact ih
theorem DP {l:iI}(h:l.Pairwise (λ a b=>qN a b=true)):l.Nodup:=by rw[bc];refine h.imp λ{a b} hab e=>?_;subst e;have:=(yI a a).mp hab;lia
section
variable {m:Nat}{cl:List Nat}{tb te:iI}(D:Drawn m cl tb te)
include D
theorem Drawn.len:cl.length=m:=by rw[D.perm.length_eq,bJ]
theorem Drawn.lt {i:Nat}(h:i<m):cl.getD i 0<m:=by
 have hl:i<cl.length:=by rw[D.len];exact h
 rw[au,aC hl];exact aw.mp (D.perm.mem_iff.mp (cJ hl))
theorem Drawn.inj {i j:Nat}(hi:i<m)(hj:j<m)(e:cl.getD i 0=cl.getD j 0):i=j:=by
 have h1:i<cl.length:=by rw[D.len];exact hi
 have h2:j<cl.length:=by rw[D.len];exact hj
 rw[au,aC h1,au,aC h2]at e;have nd:cl.Nodup:=D.perm.nodup_iff.mpr bj;exact(List.getElem_inj nd).mp e
theorem Drawn.sur {v:Nat}(h:v<m):∃ i,i<m/\cl.getD i 0=v:=by obtain⟨i,hi,e⟩:=bV (D.perm.mem_iff.mpr (aw.mpr h));exact⟨i,by rw[<-D.len];exact hi,by rw[au,aC hi];exact e⟩
theorem Drawn.all {t:Nat×Nat}(h:t∈tb++te):t.1<m/\t.2<m/\t.1≠t.2:=by
 rcases bG.mp h with h | h
 ·obtain⟨k,hk,e⟩:=bV h
  have hk':k<m-1:=by rw[<-D.tbl];exact hk
  obtain⟨a,e1,ha⟩:=D.tbk k hk';rw[aC hk,e]at e1;cases e1;exact⟨by show a<m;lia,by show k+1<m;lia,by show a≠k+1;lia⟩
 ·exact D.teo t h
theorem Drawn.SF {t:Nat×Nat}(h:t∈tb++te):(rel cl t).1<(rel cl t).2/\(rel cl t).2<m:=by obtain⟨h1,h2,h3⟩:=D.all h;have l1:=D.lt h1;have l2:=D.lt h2;have ne:cl.getD t.1 0≠cl.getD t.2 0:=λ e=>h3 (D.inj h1 h2 e);unfold rel;simp only;lia
theorem M_ {ss:iI}(hp:ss.Pairwise (λ a b=>qN a b=true))(hm:∀ t,t∈ss↔t∈(tb++te).map (rel cl)):Good (m,ss)/\(te=[]->ss.length+1=m):=by
 have m2:=D.m2;have m8:=D.m8;have nd:=DP hp;have ok:∀ p∈ss,p.1<p.2/\p.2<m:=λ p h=>by obtain⟨t,ht,rfl⟩:=aD.mp ((hm p).mp h);exact D.SF ht
 have len1:ss.length<=((tb++te).map (rel cl)).length:=aU nd λ t h=>(hm t).mp h;have len2:ss.length<=30:=by have:=D.tel;have:=D.tbl;simp at len1;lia
 have tie:∀ k,k<m-1->∃ a,a<=k/\(a,k+1)∈tb:=λ k hk=>by obtain⟨a,e,ha⟩:=D.tbk k hk;exact⟨a,ha,a8 e⟩
 refine⟨⟨m2,m8,ok,G2 hp,?_,len2,?_⟩,λ hte=>?_⟩
 ·refine M9 ok (by lia) λ S s0 cls v hv=>?_
  have step:∀ k,k<m-1->∃ a,a<=k/\(S (cl.getD a 0)↔S (cl.getD (k+1) 0)):=λ k hk=>by
   obtain⟨a,ha,mem⟩:=tie k hk;refine⟨a,ha,?_⟩;have h:=cls (rel cl (a,k+1)) ((hm _).mpr (aD.mpr ⟨_,bL _ mem,rfl⟩));unfold rel at h;simp only at h;by_cases hc:cl.getD a 0<=cl.getD (k+1) 0
   ·rw[gA hc,f6 hc]at h;exact h
   ·rw[f7 (by lia),gD (by lia)]at h;exact h.symm
  have con:∀ i,i<m->(S (cl.getD 0 0)↔S (cl.getD i 0)):=by
   intro i;induction i using Nat.strongRecOn with
   | ind i ih =>
    intro hi;cases i with
    | zero=>exact Iff.rfl
    | succ k =>obtain⟨a,ha,hs⟩:=step k (by lia);exact(ih a (by lia) (by lia)).trans hs
  obtain⟨i0,h0,e0⟩:=D.sur (v:=0) (by lia);obtain⟨i,hi,e⟩:=D.sur hv;rw[<-e];refine(con i hi).mp ((con i0 h0).mpr ?_);rw[e0];exact s0
 ·obtain⟨a,_,mem⟩:=tie 0 (by lia);intro e;have:=(hm (rel cl (a,0+1))).mpr (aD.mpr ⟨_,bL _ mem,rfl⟩);have e:ss=[]:=e;rw[e]at this;cases this
 ·subst hte
  rw[cF]at hm;have ndr:(tb.map (rel cl)).Nodup:=by
   rw[bc,cy,dw];intro i j hi hj hij e;obtain⟨a,e1,ha⟩:=D.tbk i (by rw[<-D.tbl];exact hi);obtain⟨b,e2,hb⟩:=D.tbk j (by rw[<-D.tbl];exact hj);rw[aC hi]at e1;rw[aC hj]at e2;rw[aF e1,aF e2]at e;have hi':i<m-1:=by rw[<-D.tbl];exact hi
   have hj':j<m-1:=by rw[<-D.tbl];exact hj
   unfold rel at e;simp only[Prod.mk.injEq]at e;have hc:(cl.getD a 0=cl.getD b 0/\cl.getD (i+1) 0=cl.getD (j+1) 0)\/(cl.getD a 0=cl.getD (j+1) 0/\cl.getD (i+1) 0=cl.getD b 0):=by lia
   rcases hc with⟨c1,c2⟩ | ⟨c1,c2⟩
   ·have:=D.inj (by lia) (by lia) c2;lia
   ·have:=D.inj (by lia) (by lia) c1;have:=D.inj (by lia) (by lia) c2;lia
  have le2:(tb.map (rel cl)).length<=ss.length:=aU ndr λ t h=>(hm t).mpr h;have:=D.tbl;simp at len1 le2;show ss.length+1=m;lia
end
open Qs
theorem Fv {a b c:Nat×Nat}(h1:qN a b=true)(h2:qN b c=true):qN a c=true:=by rw[yI]at *;lia
theorem uy:∀ {l:iI},rise l=true->l.Pairwise (λ a b=>qN a b=true)
 | [],_=>.nil
 | [a],_=>List.pairwise_singleton _ _
 | a::b::r,h=>by
  have h':(qN a b&&rise (b::r))=true:=h;rw[cS]at h';have ih:=uy h'.2;refine fE.mpr ⟨λ c hc=>?_,ih⟩;rcases aN.mp hc with rfl | hc
  ·exact h'.1
  ·exact Fv h'.1 ((fE.mp ih).1 c hc)
section
variable {w:Web}(g:Good w)
include g
theorem Good.nd:w.2.Nodup:=DP (uy g.rise)
theorem Good.yJ (p:Nat):(nb w.2 p).Nodup:=by
 rw[(uo w.2 p).nodup_iff,List.nodup_append];have inj1:((w.2.filter λ t=>t.2==p).map (·.1)).Nodup:=by
  rw[bc,cy];have:=bc.mp (g.nd.filter λ t=>t.2==p);refine eP ?_ this;intro a b ha hb hab e;have h1:a.2=p:=by simpa using (aY.mp ha).2
  have h2:b.2=p:=by simpa using (aY.mp hb).2
  exact hab (Prod.ext e (h1.trans h2.symm))
 have inj2:((w.2.filter λ t=>t.1==p).map (·.2)).Nodup:=by
  rw[bc,cy];have:=bc.mp (g.nd.filter λ t=>t.1==p);refine eP ?_ this;intro a b ha hb hab e;have h1:a.1=p:=by simpa using (aY.mp ha).2
  have h2:b.1=p:=by simpa using (aY.mp hb).2
  exact hab (Prod.ext (h1.trans h2.symm) e)
 refine⟨inj1,inj2,λ x hx y hy e=>?_⟩;obtain⟨t,ht,rfl⟩:=aD.mp hx;obtain⟨u,hu,rfl⟩:=aD.mp hy;have h1:t.2=p:=by simpa using (aY.mp ht).2
 have h2:u.1=p:=by simpa using (aY.mp hu).2
 have:=g.ok t (aY.mp ht).1;have:=g.ok u (aY.mp hu).1;lia
theorem Good.jB {p j:Nat}(h:j∈nb w.2 p):j<w.1/\p<w.1/\j≠p:=by
 rcases pQ.mp h with h | h
 ·have:=g.ok _ h;simp at this;lia
 ·have:=g.ok _ h;simp at this;lia
omit g in
theorem nu {l:iI}{p j:Nat}:j∈nb l p↔p∈nb l j:=by rw[pQ,pQ];exact Or.comm
theorem Good.Qv (p:Nat)(hp:p<w.1):(nb w.2 p).length<=7:=by
 have h:(p::nb w.2 p).Nodup:=bx.mpr ⟨λ m=>(g.jB m).2.2 rfl,g.yJ p⟩;have:=aU h (l₂:=List.range w.1) λ x hx=>by
  rcases aN.mp hx with rfl | hx
  ·exact aw.mpr hp
  ·exact aw.mpr (g.jB hx).1
 simp at this;have:=g.km;lia
end
theorem DQ {l:iI}{s:Nat}:∀ (m:Nat) (fd:iI) (jq:List Nat),(∀ k∈keys fd,k=s\/∃ q,k∈nb l q)->∀ k∈keys (mG l m fd jq),k=s\/∃ q,k∈nb l q
 | 0,fd,_,h=>h
 | _+1,fd,[],h=>h
 | m+1,fd,e::es,h=>by
  refine DQ m _ _ λ k hk=>?_;have v1:∀ (p:Nat) (xs:List Nat) (st:iI×List Nat),(∀ x∈xs,∃ q,x∈nb l q)->(∀ k∈keys st.1,k=s\/∃ q,k∈nb l q)->∀ k∈keys (xs.foldl (jI p) st).1,k=s\/∃ q,k∈nb l q:=by
   intro p xs;induction xs with
   | nil=>intro st _ h;exact h
   | cons x r ih =>
    intro st hx h;rw[cG];refine ih _ (λ y hy=>hx y (av _ hy)) λ k hk=>?_;unfold jI at hk;split at hk
    ·exact h k hk
    ·rw[keys,a7]at hk
     rcases bG.mp hk with z | z
     ·exact h k z
     ·have:k=x:=by simpa using z
      rw[this];exact .inr (hx x ar)
  have v2:∀ (es:List Nat) (st:iI×List Nat),(∀ k∈keys st.1,k=s\/∃ q,k∈nb l q)->∀ k∈keys (es.foldl (visit l) st).1,k=s\/∃ q,k∈nb l q:=by
   intro es;induction es with
   | nil=>intro st h;exact h
   | cons x r ih=>intro st h;rw[cG];exact ih _ (v1 x _ st (λ y hy=>⟨x,hy⟩) h)
  exact v2 (e::es) (fd,[]) h k hk
theorem Good.Na {w:Web}(g:Good w)(p:Nat)(hp:p<w.1):0<(nb w.2 p).length:=by
 obtain⟨h1,h2,h3⟩:=pR (l:=w.2) (s:=0) (2*w.2.length+2) [(0,0)] [0] ⟨by simp,λ q hq=>by rw[bA.mp hq];exact ar,λ j hj=>by simpa using hj⟩ (λ k hk=>.inl (by simpa [keys] using hk)) (λ _=>by simp);have e:mG w.2 (2*w.2.length+2) [(0,0)] [0]=bfs w.2 0:=rfl;rw[e]at h1 h2 h3;have fn:=DQ (l:=w.2) (s:=0) (2*w.2.length+2) [(0,0)] [0] (λ k hk=>.inl (by simpa [keys] using hk));rw[e]at fn;have two:=g.two;have all:∀ v,v<w.1->v∈keys (bfs w.2 0):=λ v hv=>by
  refine aR λ hn=>?_;have nd:(v::keys (bfs w.2 0)).Nodup:=bx.mpr ⟨hn,h3.nd⟩;have:=aU nd (l₂:=List.range w.1) λ x hx=>by
   rcases aN.mp hx with rfl | hx
   ·exact aw.mpr hv
   ·rcases fn x hx with z | ⟨q,hq⟩
    ·rw[z];exact aw.mpr (by lia)
    ·exact aw.mpr (g.jB hq).1
  have hl:(keys (bfs w.2 0)).length=w.1:=by rw[keys,ag];exact g.all
  simp[hl]at this;lia
 have some':∀ v,v<w.1->v≠0->0<(nb w.2 v).length:=λ v hv h0=>by
  rcases fn v (all v hv) with z | ⟨q,hq⟩
  ·exact absurd z h0
  ·exact List.length_pos_of_mem (nu.mp hq)
 by_cases h0:p=0
 ·subst h0
  refine aR λ hn=>?_;have hnil:nb w.2 0=[]:=dP.mp (by lia);have hb:bfs w.2 0=[(0,0)]:=by
   have:kh w.2 [(0,0)] [0]=([(0,0)],[]):=by show visit w.2 ([(0,0)],[]) 0=_;unfold visit;rw[hnil];rfl
   show mG w.2 ((2*w.2.length+1)+1) [(0,0)] [0]=_;show mG w.2 (2*w.2.length+1) (kh w.2 [(0,0)] [0]).1 (kh w.2 [(0,0)] [0]).2=_;rw[this];rfl
  have:=g.all;rw[hb]at this;simp at this;lia
 ·exact some' p hp h0
section
variable {w:Web}(g:Good w)
include g
def dg (w:Web)(j:Nat):Nat:=(nb w.2 j).length
theorem Good.hand:S w.1 (λ p=>dg w p)=2*w.2.length:=by
 have e:∀ p,dg w p=(w.2.filter λ t=>t.2==p).length+(w.2.filter λ t=>t.1==p).length:=λ p=>by unfold dg;rw[(uo w.2 p).length_eq,aT,ag,ag]
 rw[xi λ p _=>e p,I8];have cnt:∀ (f:Nat×Nat->Nat) (l:iI),(∀ t∈l,f t<w.1)->S w.1 (λ p=>(l.filter λ t=>f t==p).length)=l.length:=by
  intro f l;induction l with
  | nil=>intro _;simp[Cu]
  | cons t r ih =>
   intro h;rw[aQ,<-ih λ u hu=>h u (av _ hu),<-N8 (h t ar) (λ _=>1),<-I8];refine xi λ p _=>?_;by_cases hp:f t=p
   ·have:(f t==p)=true:=by simpa using hp
    rw[dR (by simpa using hp),af hp.symm];simp
   ·rw[dS (by simpa using hp),ah (aX hp)];simp
 rw[cnt (·.2) w.2 λ t ht=>(g.ok t ht).2,cnt (·.1) w.2 λ t ht=>by have:=g.ok t ht;lia];lia
end
structure G3 (l:iI)(s c:Nat)(fd:iI)(jq:List Nat):Prop where
 start:(s,0)∈fd
 nd:(keys fd).Nodup
 le:∀ q∈fd,q.2<=c
 jq:∀ v,v∈jq↔(v,c)∈fd
 cl:∀ q∈fd,q.2<c->∀ u∈nb l q.1,∃ d,(u,d)∈fd/\d<=q.2+1
 par:∀ q∈fd,(q.2=0/\q.1=s)\/∃ u d,(u,d)∈fd/\q.2=d+1/\q.1∈nb l u
 ord:fd.Pairwise (λ a b=>a.2<=b.2)
theorem pj:∀ {fd:iI} {v d:Nat},(keys fd).Nodup->(v,d)∈fd->look fd v=d
 | q::r,v,d,nd,h=>by
  obtain⟨k,e⟩:=q;have nd:(k::keys r).Nodup:=nd;rw[bx]at nd;by_cases hk:v=k
  ·subst hk
   rcases aN.mp h with h | h
   ·cases h;simp[look,List.lookup]
   ·exact absurd (aD.mpr ⟨_,h,rfl⟩) nd.1
  ·rcases aN.mp h with h | h
   ·cases h;exact absurd rfl hk
   ·have:=pj nd.2 h
    unfold look at this ⊢;rw[br];have:(v==k)=false:=by simpa using hk
    rw[this];assumption
theorem KN {fd:iI}{v:Nat}(nd:(keys fd).Nodup)(h:v∈keys fd):(v,look fd v)∈fd:=by obtain⟨⟨a,b⟩,hq,rfl⟩:=aD.mp h;rw[pj nd hq];exact hq
structure Mid (l:iI)(c:Nat)(fd:iI)(st:iI×List Nat)(nw:iI):Prop where
 eq:st.1=fd++nw
 by':st.2=nw.map (·.1)
 nd:(keys st.1).Nodup
 val:∀ q∈nw,q.2=c+1/\∃ u,(u,c)∈fd/\q.1∈nb l u
set_option tactic.hygienic true in
theorem Mid.one {l:iI}{c:Nat}{fd:iI}{st:iI×List Nat}{nw:iI}(h:Mid l c fd st nw){p j:Nat}(hp:(p,c)∈fd)(hj:j∈nb l p):∃ nw',Mid l c fd (jI p st j) nw':=by
 unfold jI;split
 ·exact⟨nw,h⟩
 ·rename_i hk
  have hk:j∉keys st.1:=λ m=>hk ((nK _ _).mpr m);have e:look st.1 p=c:=pj h.nd (by rw[h.eq];exact bL _ hp);refine⟨nw++[(j,look st.1 p+1)],⟨?_,?_,?_,?_⟩⟩
  ·show st.1++_=_;rw[h.eq,eJ]
  ·show st.2++[j]=_;rw[h.by',a7];rfl
  ·show(keys (st.1++_)).Nodup;rw[keys,a7];exact Be h.nd hk
  ·intro q hq
   rcases bG.mp hq with z | z
   ·exact h.val q z
   ·rw[bA.mp z,e];exact⟨rfl,p,hp,hj⟩
theorem Mid.vis {l:iI}{c:Nat}{fd:iI}{p:Nat}(hp:(p,c)∈fd):∀ (xs:List Nat) (st:iI×List Nat) (nw:iI),(∀ j∈xs,j∈nb l p)->Mid l c fd st nw->∃ nw',Mid l c fd (xs.foldl (jI p) st) nw'
 | [],st,nw,_,h=>⟨nw,h⟩
 | x::r,st,nw,hx,h=>by obtain⟨nw',h'⟩:=h.one hp (hx x ar);exact Mid.vis hp r _ nw' (λ j hj=>hx j (av _ hj)) h'
theorem Mid.lay {l:iI}{c:Nat}{fd:iI}:∀ (es:List Nat) (st:iI×List Nat) (nw:iI),(∀ p∈es,(p,c)∈fd)->Mid l c fd st nw->∃ nw',Mid l c fd (es.foldl (visit l) st) nw'
 | [],st,nw,_,h=>⟨nw,h⟩
 | x::r,st,nw,hx,h=>by obtain⟨nw',h'⟩:=Mid.vis (hx x ar) (nb l x) st nw (λ _ h=>h) h;exact Mid.lay r _ nw' (λ j hj=>hx j (av _ hj)) h'
theorem G3.step {l:iI}{s c:Nat}{fd:iI}{jq:List Nat}(h:G3 l s c fd jq):G3 l s (c+1) (kh l fd jq).1 (kh l fd jq).2:=by
 obtain⟨nw,m⟩:=Mid.lay jq (fd,[]) [] (λ p hp=>(h.jq p).mp hp) ⟨by simp,rfl,h.nd,λ q hq=>by cases hq⟩;have m:Mid l c fd (kh l fd jq) nw:=m;have dn:=λ k (hk:k∈jq)=>sQ (l:=l) (fd:=fd) jq (fd,[]) k (.inl hk);have dn:∀ k∈jq,Done l (kh l fd jq).1 k:=dn;have mem:∀ q,q∈(kh l fd jq).1↔q∈fd\/q∈nw:=λ q=>by rw[m.eq,bG]
 have le1:∀ q∈(kh l fd jq).1,q.2<=c+1:=λ q hq=>by
  rcases (mem q).mp hq with z | z
  ·have:=h.le q z;lia
  ·have:=(m.val q z).1;lia
 refine⟨(mem _).mpr (.inl h.start),m.nd,le1,λ v=>?_,λ q hq lt u hu=>?_,λ q hq=>?_,?_⟩
 ·rw[m.by',aD]
  constructor
  ·rintro⟨q,hq,rfl⟩;have:=(m.val q hq).1;rw[<-this];exact(mem _).mpr (.inr hq)
  ·intro hv
   rcases (mem _).mp hv with z | z
   ·have:=h.le _ z;simp at this;lia
   ·exact⟨_,z,rfl⟩
 ·rcases (mem q).mp hq with z | z
  ·by_cases hc:q.2<c
   ·obtain⟨d,hd,hle⟩:=h.cl q z hc u hu;exact⟨d,(mem _).mpr (.inl hd),hle⟩
   ·have e:q.2=c:=by have:=h.le q z;lia
    have hk:q.1∈jq:=(h.jq _).mpr (by rw[<-e];exact z);have:=dn q.1 hk u hu;obtain⟨q',hq',rfl⟩:=aD.mp this;exact⟨q'.2,hq',by rw[e];exact le1 q' hq'⟩
  ·have:=(m.val q z).1;lia
 ·rcases (mem q).mp hq with z | z
  ·rcases h.par q z with y | ⟨u,d,h1,h2,h3⟩
   ·exact .inl y
   ·exact .inr ⟨u,d,(mem _).mpr (.inl h1),h2,h3⟩
  ·obtain⟨e,u,hu,hn⟩:=m.val q z;exact .inr ⟨u,c,(mem _).mpr (.inl hu),e,hn⟩
 ·rw[m.eq,List.pairwise_append]
  refine⟨h.ord,?_,λ a ha b hb=>?_⟩
  ·rw[dw];intro i j hi hj _;have:=(m.val _ (cJ hi)).1;have:=(m.val _ (cJ hj)).1;lia
  ·have:=h.le a ha;have:=(m.val b hb).1;lia
structure Far (l:iI)(s:Nat)(fd:iI):Prop where
 start:(s,0)∈fd
 nd:(keys fd).Nodup
 cl:∀ q∈fd,∀ u∈nb l q.1,∃ d,(u,d)∈fd/\d<=q.2+1
 par:∀ q∈fd,(q.2=0/\q.1=s)\/∃ u d,(u,d)∈fd/\q.2=d+1/\q.1∈nb l u
 ord:fd.Pairwise (λ a b=>a.2<=b.2)
theorem AI {l:iI}{s:Nat}:∀ (m c:Nat) (fd:iI) (jq:List Nat),BI (univ l s) (fd,jq)->G3 l s c fd jq->(jq≠[]->2*l.length+3<=m+fd.length)->Far l s (mG l m fd jq)
 | m,c,fd,[],bi,h,_=>by
  have e:mG l m fd []=fd:=by cases m<;>rfl
  rw[e];exact⟨h.start,h.nd,λ q hq=>h.cl q hq (by
   have:=h.le q hq;rcases hG q.2 c with z | z
   ·exact z
   ·have e:q.2=c:=by lia
    have:=(h.jq q.1).mpr (by rw[<-e];exact hq);cases this),h.par,h.ord⟩
 | 0,c,fd,e::es,bi,h,hf=>by have:=bi.le;rw[uw]at this;have h:=hf (by simp);have:fd.length<=2*l.length+1:=this;lia
 | m+1,c,fd,e::es,bi,h,hf=>by have hf:=hf (by simp);have bi':BI (univ l s) (fd,[]):=⟨bi.nd,bi.sub,by simp⟩;have lb:=yH (jq:=e::es) bi';have ll:=vJ (l:=l) (fd:=fd) (jq:=e::es);exact AI m (c+1) (kh l fd (e::es)).1 (kh l fd (e::es)).2 ⟨lb.nd,lb.sub,lb.by'⟩ h.step (λ hne=>by have:0<(kh l fd (e::es)).2.length:=dh.mpr hne;lia)
theorem lO (l:iI)(s:Nat):Far l s (bfs l s):=by refine AI (2*l.length+2) 0 [(s,0)] [s] ⟨by simp,λ q hq=>by rw[bA.mp hq];exact ar,λ j hj=>by simpa using hj⟩ ?_ (λ _=>by simp);refine⟨by simp,by simp[keys],λ q hq=>by simp at hq;rw[hq];simp,λ v=>by simp,λ q hq lt=>by lia,λ q hq=>by simp at hq;rw[hq];simp,by simp⟩
theorem Far.sub {l:iI}{s:Nat}{fd:iI}(f:Far l s fd)(S:Nat->Prop)(s0:S s)(cl:∀ u v,v∈nb l u->S u->S v):∀ (d v:Nat),(v,d)∈fd->S v
 | 0,v,h=>by
  rcases f.par _ h with⟨_,e⟩ | ⟨u,d,_,e,_⟩
  ·rw[show v=s from e];exact s0
  ·simp at e
 | d+1,v,h=>by
  rcases f.par _ h with⟨e,_⟩ | ⟨u,d',h1,e,hn⟩
  ·simp at e
  ·simp at e;subst e;exact cl u v hn (Far.sub f S s0 cl d u h1)
section
variable {w:Web}(g:Good w)
include g
theorem Good.SG {v:Nat}(hv:v<w.1):v∈keys (bfs w.2 0):=by
 have f:=lO w.2 0;have sub:∀ k∈keys (bfs w.2 0),k∈List.range w.1:=λ k hk=>by obtain⟨q,hq,rfl⟩:=aD.mp hk;rw[aw];exact f.sub (λ v=>v<w.1) (by have:=g.two;lia) (λ u v h _=>(g.jB h).1) q.2 q.1 hq
 have len:(keys (bfs w.2 0)).length=w.1:=by rw[keys,ag];exact g.all
 refine aR λ hn=>?_;have:(v::keys (bfs w.2 0)).Nodup:=bx.mpr ⟨hn,f.nd⟩;have:=aU this (l₂:=List.range w.1) (λ k hk=>by
  rcases aN.mp hk with rfl | hk
  ·exact aw.mpr hv
  ·exact sub k hk)
 simp[len]at this;lia
theorem Good.conn (S:Nat->Prop)(cl:∀ u v,v∈nb w.2 u->S u->S v){u v:Nat}(hu:u<w.1)(hv:v<w.1)(h:S u):S v:=by
 have f:=lO w.2 0;have go:∀ (T:Nat->Prop),(∀ u v,v∈nb w.2 u->T u->T v)->T 0->∀ v,v<w.1->T v:=λ T c t0 v hv=>by obtain⟨q,hq,rfl⟩:=aD.mp (g.SG hv);exact f.sub T t0 c q.2 q.1 hq
 have z:S 0:=aR λ hn=>go (λ v=>¬ S v) (λ a b hb ha sb=>ha (cl b a (nu.mp hb) sb)) hn u hu h;exact go S cl z v hv
theorem Good.inKeys {s v:Nat}(hs:s<w.1):v∈keys (bfs w.2 s)↔v<w.1:=by
 have f:=lO w.2 s;constructor
 ·intro h;obtain⟨q,hq,rfl⟩:=aD.mp h;exact f.sub (λ v=>v<w.1) hs (λ u v h _=>(g.jB h).1) q.2 q.1 hq
 ·intro hv;refine g.conn (λ v=>v∈L2.keys (bfs w.2 s)) (λ u v hv hu=>?_) hs hv (aD.mpr ⟨_,f.start,rfl⟩);obtain⟨q,hq,rfl⟩:=aD.mp hu;obtain⟨d,hd,_⟩:=f.cl q hq v hv;exact aD.mpr ⟨_,hd,rfl⟩
end
def ds (l:iI)(s v:Nat):Nat:=look (bfs l s) v
section
variable {w:Web}(g:Good w)
include g
omit g in
theorem jQ (l:iI)(s:Nat):ds l s s=0:=pj (lO l s).nd (lO l s).start
theorem Good.KO {s v:Nat}(hs:s<w.1)(hv:v<w.1):(v,ds w.2 s v)∈bfs w.2 s:=KN (lO _ _).nd ((g.inKeys hs).mpr hv)
theorem Good.DR {s u v:Nat}(hs:s<w.1)(h:v∈nb w.2 u):ds w.2 s v<=ds w.2 s u+1:=by obtain⟨d,hd,hle⟩:=(lO w.2 s).cl _ (g.KO hs (g.jB h).2.1) v h;have:ds w.2 s v=d:=pj (lO _ _).nd hd;lia
theorem Good.mr {s v:Nat}(hs:s<w.1)(hv:v<w.1)(ne:v≠s):∃ u,v∈nb w.2 u/\ds w.2 s v=ds w.2 s u+1:=by
 rcases (lO w.2 s).par _ (g.KO hs hv) with⟨_,e⟩ | ⟨u,d,h1,h2,h3⟩
 ·exact absurd e ne
 ·refine⟨u,h3,?_⟩;rw[show ds w.2 s u=d from pj (lO _ _).nd h1];exact h2
theorem Good.oB {s v:Nat}(hs:s<w.1)(hv:v<w.1)(h:ds w.2 s v=0):v=s :=
 aR λ ne=>by obtain⟨u,_,e⟩:=g.mr hs hv ne;lia
theorem Good.KP {s:Nat}(hs:s<w.1)(F:Nat->Nat)(f0:F s=0)(fs:∀ u v,v∈nb w.2 u->F v<=F u+1):∀ v,v<w.1->F v<=ds w.2 s v:=by
 have go:∀ d v,v<w.1->ds w.2 s v=d->F v<=d:=by
  intro d;induction d with
  | zero=>intro v hv e;rw[g.oB hs hv e,f0];exact ak _
  | succ d ih =>intro v hv e;obtain⟨u,hu,e'⟩:=g.mr hs hv (λ z=>by rw[z,jQ]at e;lia);have:=ih u (g.jB hu).2.1 (by lia);have:=fs u v hu;lia
 intro v hv;exact go _ v hv rfl
theorem Good.Qw {a b c:Nat}(ha:a<w.1)(hb:b<w.1)(hc:c<w.1):ds w.2 a c<=ds w.2 a b+ds w.2 b c:=by have:=g.KP hb (λ v=>ds w.2 a v-ds w.2 a b) (by simp) (λ u v h=>by have:=g.DR ha h;lia) c hc;lia
theorem Good.AJ {a b:Nat}(ha:a<w.1)(hb:b<w.1):ds w.2 b a<=ds w.2 a b:=by
 have go:∀ d v,v<w.1->ds w.2 a v=d->ds w.2 v a<=d:=by
  intro d;induction d with
  | zero=>intro v hv e;rw[g.oB ha hv e,jQ];exact ak _
  | succ d ih =>intro v hv e;obtain⟨u,hu,e'⟩:=g.mr ha hv (λ z=>by rw[z,jQ]at e;lia);have hul:=(g.jB hu).2.1;have h1:=ih u hul (by lia);have h2:=g.Qw hv hul ha;have h3:=g.DR hv (nu.mp hu);rw[jQ]at h3;lia
 exact go _ b hb rfl
theorem Good.sR {a b:Nat}(ha:a<w.1)(hb:b<w.1):ds w.2 a b=ds w.2 b a:=Nat.le_antisymm (g.AJ hb ha) (g.AJ ha hb)
theorem Good.Fw {a b:Nat}(ha:a<w.1)(hb:b<w.1):ds w.2 a b=1↔b∈nb w.2 a:=by
 constructor
 ·intro h;obtain⟨u,hu,e⟩:=g.mr ha hb (λ z=>by rw[z,jQ]at h;lia);have:u=a:=g.oB ha (g.jB hu).2.1 (by lia);rw[<-this];exact hu
 ·intro h;have h1:=g.DR ha h;rw[jQ]at h1;have h2:ds w.2 a b≠0:=λ e=>(g.jB h).2.2 (g.oB ha hb e);lia
end
def j_ (a b:Nat):Nat×Nat:=(min a b,max a b)
theorem AK (a b:Nat):j_ a b=j_ b a:=by unfold j_;rw[Nat.min_comm,Nat.max_comm]
theorem yK {a b c d:Nat}(h:j_ a b=j_ c d):(a=c/\b=d)\/(a=d/\b=c):=by unfold j_ at h;simp only[Prod.mk.injEq]at h;lia
theorem DS {α:Type}{a b:List α}(nd:a.Nodup)(sub:∀ x∈a,x∈b)(len:b.length<=a.length):∀ x∈b,x∈a:=λ x hx=>aR λ hn=>by
 have:=aU (bx.mpr ⟨hn,nd⟩) (l₂:=b) (λ y hy=>by
  rcases aN.mp hy with rfl | hy
  ·exact hx
  ·exact sub y hy)
 simp at this;lia
section
variable {w:Web}(g:Good w)
include g
theorem Good.sU {u v:Nat}:v∈nb w.2 u↔j_ u v∈w.2:=by
 rw[pQ];unfold j_;constructor
 ·rintro (h | h)
  ·have:=g.ok _ h;simp at this;rw[f7 (by lia),gD (by lia)];exact h
  ·have:=g.ok _ h;simp at this;rw[gA (by lia),f6 (by lia)];exact h
 ·intro h
  rcases Nat.le_total u v with z | z
  ·rw[gA z,f6 z]at h;exact .inr h
  ·rw[f7 z,gD z]at h;exact .inl h
variable (tr:w.2.length+1=w.1)
include tr
theorem Good.DT {b:Nat}(hb:b<w.1):∃ par:Nat->Nat,(∀ v,v<w.1->v≠b->v∈nb w.2 (par v)/\ds w.2 b v=ds w.2 b (par v)+1)/\∀ u v,v∈nb w.2 u->(v≠b/\u=par v)\/(u≠b/\v=par u):=by
 have hx:∀ v,∃ u,v<w.1->v≠b->v∈nb w.2 u/\ds w.2 b v=ds w.2 b u+1:=λ v=>by
  by_cases h:v<w.1/\v≠b
  ·obtain⟨u,hu⟩:=g.mr hb h.1 h.2;exact⟨u,λ _ _=>hu⟩
  ·exact⟨0,λ h1 h2=>absurd ⟨h1,h2⟩ h⟩
 obtain⟨par,hp⟩:=Classical.axiomOfChoice hx;have hp:∀ v,v<w.1->v≠b->v∈nb w.2 (par v)/\ds w.2 b v=ds w.2 b (par v)+1:=hp;refine⟨par,hp,?_⟩;have vs:∀ v,v∈(List.range w.1).filter (λ v=>v != b)↔v<w.1/\v≠b:=λ v=>by simp[aY]
 have nd0:((List.range w.1).filter (λ v=>v != b)).Nodup:=bj.filter _;have len0:w.1<=((List.range w.1).filter (λ v=>v != b)).length+1:=by
  have:=aU (bj (n:=w.1)) (l₂:=b::(List.range w.1).filter (λ v=>v != b)) (λ v hv=>by
   by_cases e:v=b
   ·rw[e];exact ar
   ·exact av _ ((vs v).mpr ⟨aw.mp hv,e⟩))
  simpa using this
 have nd1:(((List.range w.1).filter (λ v=>v != b)).map λ v=>j_ (par v) v).Nodup:=by
  rw[bc,cy];refine eP ?_ (bc.mp nd0);intro x y hx hy ne e;obtain⟨x1,x2⟩:=(vs x).mp hx;obtain⟨y1,y2⟩:=(vs y).mp hy;rcases yK e with⟨_,z⟩ | ⟨z1,z2⟩
  ·exact ne z
  ·have h1:=(hp x x1 x2).2;have h2:=(hp y y1 y2).2;rw[z1]at h1;rw[<-z2]at h2;lia
 have full:=DS nd1 (b:=w.2) (λ t ht=>by obtain⟨v,hv,rfl⟩:=aD.mp ht;obtain⟨h1,h2⟩:=(vs v).mp hv;exact g.sU.mp (hp v h1 h2).1) (by rw[ag];lia)
 intro u v h;obtain⟨x,hx,e⟩:=aD.mp (full _ (g.sU.mp h));obtain⟨h1,h2⟩:=(vs x).mp hx;rcases yK e with⟨z1,z2⟩ | ⟨z1,z2⟩
 ·exact .inl ⟨z2▸h2,by rw[<-z1,z2]⟩
 ·exact .inr ⟨z2▸h2,by rw[<-z1,z2]⟩
theorem Good.sV {b u v:Nat}(hb:b<w.1)(h:v∈nb w.2 u):ds w.2 b v=ds w.2 b u+1\/ds w.2 b u=ds w.2 b v+1:=by
 obtain⟨par,hp,ht⟩:=g.DT tr hb;rcases ht u v h with⟨n,e⟩ | ⟨n,e⟩
 ·have:=(hp v (g.jB h).1 n).2;rw[<-e]at this;exact .inl this
 ·have:=(hp u (g.jB h).2.1 n).2;rw[<-e]at this;exact .inr this
theorem Good.AL {b u u' v:Nat}(hb:b<w.1)(h:u∈nb w.2 v)(h':u'∈nb w.2 v)(lt:ds w.2 b u<ds w.2 b v)(lt':ds w.2 b u'<ds w.2 b v):u=u':=by
 obtain⟨par,hp,ht⟩:=g.DT tr hb;have go:∀ u,u∈nb w.2 v->ds w.2 b u<ds w.2 b v->u=par v:=λ u h lt=>by
  rcases ht v u h with⟨n,e⟩ | ⟨n,e⟩
  ·have:=(hp u (g.jB h).1 n).2;rw[<-e]at this;lia
  ·exact e
 rw[go u h lt,go u' h' lt']
end
def nx (l:iI)(b v:Nat):Nat:=((nb l v).filter (λ u=>decide (ds l b u<ds l b v))).headD 0
section
variable {w:Web}(g:Good w)
include g
theorem Good.sA {b v:Nat}(hb:b<w.1)(hv:v<w.1)(ne:v≠b):nx w.2 b v∈nb w.2 v/\ds w.2 b v=ds w.2 b (nx w.2 b v)+1/\((nb w.2 v).filter (λ u=>decide (ds w.2 b u<ds w.2 b v)))≠[]:=by
 obtain⟨u,hu,e⟩:=g.mr hb hv ne;have hm:u∈(nb w.2 v).filter (λ u=>decide (ds w.2 b u<ds w.2 b v)):=aY.mpr ⟨nu.mp hu,by simp;lia⟩;have hne:((nb w.2 v).filter (λ u=>decide (ds w.2 b u<ds w.2 b v)))≠[]:=List.ne_nil_of_mem hm;have hh:nx w.2 b v∈(nb w.2 v).filter (λ u=>decide (ds w.2 b u<ds w.2 b v)):=by
  unfold nx;match (nb w.2 v).filter (λ u=>decide (ds w.2 b u<ds w.2 b v)),hne with
  | x::r,_=>exact ar
 obtain⟨h1,h2⟩:=aY.mp hh;have h2:ds w.2 b (nx w.2 b v)<ds w.2 b v:=by simpa using h2
 have:=g.DR hb (nu.mp h1);exact⟨h1,by lia,hne⟩
theorem Good.OI {b v:Nat}(hb:b<w.1)(hv:v<w.1)(ne:v≠b):nx w.2 b v<w.1:=(g.jB (g.sA hb hv ne).1).1
variable (tr:w.2.length+1=w.1)
include tr
theorem Good.uz {b u v:Nat}(hb:b<w.1)(h:u∈nb w.2 v)(lt:ds w.2 b u<ds w.2 b v):u=nx w.2 b v:=by
 have ne:v≠b:=λ e=>by rw[e,jQ]at lt;lia
 obtain⟨h1,h2,_⟩:=g.sA hb (g.jB h).2.1 ne;exact g.AL tr hb h h1 lt (by lia)
end
def cut (l:iI)(a b:Nat):iI:=l.filter λ t=>t != j_ a b
section
variable {w:Web}(g:Good w)
include g
theorem Good.KQ {a b u v:Nat}:v∈nb (cut w.2 a b) u↔v∈nb w.2 u/\j_ u v≠j_ a b:=by
 have e:(v,u)∈cut w.2 a b\/(u,v)∈cut w.2 a b↔((v,u)∈w.2/\(v,u)≠j_ a b)\/((u,v)∈w.2/\(u,v)≠j_ a b):=by simp[cut,aY]
 rw[pQ,e,pQ];have h1:(v,u)∈w.2->j_ u v=(v,u):=λ h=>by have:=g.ok _ h;simp at this;simp[j_];lia
 have h2:(u,v)∈w.2->j_ u v=(u,v):=λ h=>by have:=g.ok _ h;simp at this;simp[j_];lia
 constructor
 ·rintro (⟨h,n⟩ | ⟨h,n⟩)
  ·exact⟨.inl h,by rw[h1 h];exact n⟩
  ·exact⟨.inr h,by rw[h2 h];exact n⟩
 ·rintro⟨h | h,n⟩
  ·exact .inl ⟨h,by rw[<-h1 h];exact n⟩
  ·exact .inr ⟨h,by rw[<-h2 h];exact n⟩
variable (tr:w.2.length+1=w.1)
include tr
theorem Good.side {a b v:Nat}(hv:v<w.1)(hab:b∈nb w.2 a):ds w.2 a v=ds w.2 b v+1\/ds w.2 b v=ds w.2 a v+1:=by
 have ha:=(g.jB hab).2.1;have hb:=(g.jB hab).1;rw[g.sR ha hv,g.sR hb hv];rcases g.sV tr hv hab with h | h
 ·exact .inr h
 ·exact .inl h
theorem Good.SH {a b u v:Nat}(hab:b∈nb w.2 a)(h:v∈nb w.2 u)(su:ds w.2 a u=ds w.2 b u+1)(sv:ds w.2 b v=ds w.2 a v+1):u=b/\v=a:=by
 have ha:=(g.jB hab).2.1;have hb:=(g.jB hab).1;have hu:=(g.jB h).2.1;have hv:=(g.jB h).1;have h1:=g.sV tr ha h;have h2:=g.sV tr hb h;have e:u=b:=aR λ ne=>by
  obtain⟨p1,p2,_⟩:=g.sA hb hu ne;have hp:=(g.jB p1).1;have h3:=g.sV tr ha p1;have h4:=g.side tr hp hab;by_cases lt:ds w.2 a (nx w.2 b u)<ds w.2 a u
  ·have:v=nx w.2 b u:=g.AL tr ha h p1 (by lia) lt;rw[<-this]at p2;lia
  ·lia
 subst e;rw[jQ]at su h2;exact⟨rfl,g.oB ha hv (by lia)⟩
theorem Good.KR {a b v:Nat}(hab:b∈nb w.2 a):v∈keys (bfs (cut w.2 a b) b)↔v<w.1/\ds w.2 a v=ds w.2 b v+1:=by
 have ha:=(g.jB hab).2.1;have hb:=(g.jB hab).1;have f:=lO (cut w.2 a b) b;have ab1:ds w.2 a b=1:=(g.Fw ha hb).mpr hab;have ba1:ds w.2 b a=1:=(g.Fw hb ha).mpr (nu.mp hab);constructor
 ·intro h
  obtain⟨q,hq,rfl⟩:=aD.mp h;refine f.sub (λ v=>v<w.1/\ds w.2 a v=ds w.2 b v+1) ⟨hb,by rw[jQ,ab1]⟩ (λ u v hn hs=>?_) q.2 q.1 hq;obtain⟨n1,n2⟩:=g.KQ.mp hn;refine⟨(g.jB n1).1,?_⟩;rcases g.side tr (g.jB n1).1 hab with z | z
  ·exact z
  ·obtain⟨rfl,rfl⟩:=g.SH tr hab n1 hs.2 z;exact absurd (AK _ _) n2
 ·rintro⟨hv,e⟩
  have go:∀ d v,v<w.1->ds w.2 b v=d->ds w.2 a v=ds w.2 b v+1->v∈keys (bfs (cut w.2 a b) b):=by
   intro d;induction d with
   | zero=>intro v hv h0 _;rw[g.oB hb hv h0];exact aD.mpr ⟨_,f.start,rfl⟩
   | succ d ih =>
    intro v hv hd hs;obtain⟨u,hu,e'⟩:=g.mr hb hv (λ z=>by rw[z,jQ]at hd;lia);have hul:=(g.jB hu).2.1;have h1:=g.sV tr ha hu;have h2:=g.side tr hul hab;have su:ds w.2 a u=ds w.2 b u+1:=by lia
    obtain⟨q,hq,rfl⟩:=aD.mp (ih u hul (by lia) su);obtain⟨d',hd',_⟩:=f.cl q hq v (g.KQ.mpr ⟨hu,λ t=>by
     rcases yK t with⟨z,_⟩ | ⟨_,z⟩
     ·rw[z,jQ]at su;lia
     ·rw[z,jQ]at hs;lia⟩)
    exact aD.mpr ⟨_,hd',rfl⟩
  exact go _ v hv rfl e
theorem Good.yL {a b:Nat}(hab:b∈nb w.2 a):(bfs (cut w.2 a b) b).length=(List.range w.1).countP λ v=>decide (ds w.2 a v=ds w.2 b v+1):=by
 have f:=lO (cut w.2 a b) b;have e:(bfs (cut w.2 a b) b).length=(keys (bfs (cut w.2 a b) b)).length:=by simp[keys]
 rw[e,List.countP_eq_length_filter];have iff:∀ v,v∈keys (bfs (cut w.2 a b) b)↔v∈(List.range w.1).filter λ v=>decide (ds w.2 a v=ds w.2 b v+1):=λ v=>by rw[g.KR tr hab,aY,aw];simp
 exact Nat.le_antisymm (aU f.nd λ v h=>(iff v).mp h) (aU (bj.filter _) λ v h=>(iff v).mpr h)
end
theorem yM {α:Type}(p q:α->Bool):∀ (l:List α),(∀ x∈l,q x=!p x)->l.countP p+l.countP q=l.length
 | [],_=>rfl
 | x::r,h=>by have ih:=yM p q r λ y hy=>h y (av _ hy);have hx:=h x ar;rw[dE,dE,hx,aQ];cases p x<;>simp<;>lia
section
variable {w:Web}(g:Good w)(tr:w.2.length+1=w.1)
include g tr
theorem Good.parts {a b:Nat}(hab:b∈nb w.2 a):(bfs (cut w.2 a b) b).length+(bfs (cut w.2 b a) a).length=w.1:=by
 rw[g.yL tr hab,g.yL tr (nu.mp hab)];have:=yM (λ v=>decide (ds w.2 a v=ds w.2 b v+1)) (λ v=>decide (ds w.2 b v=ds w.2 a v+1)) (List.range w.1) λ v hv=>by
  have:=g.side tr (aw.mp hv) hab;by_cases h:ds w.2 a v=ds w.2 b v+1
  ·have h':¬ ds w.2 b v=ds w.2 a v+1:=by lia
   simp only[h,h',decide_true,decide_false,dJ];simp;lia
  ·have h':ds w.2 b v=ds w.2 a v+1:=by lia
   simp[h'];lia
 rw[bJ]at this;exact this
end
def sz (l:iI)(a b:Nat):Nat:=(bfs (cut l a b) b).length
def ov (l:iI)(a b:Nat):Int:=2*(sz l b a:Int)-1
def mF (l:iI)(b:Nat):Nat->Nat->Int
 | 0,_=>0
 | k+1,v=>if v=b then 0 else mF l b k (nx l b v)+ov l v (nx l b v)
def mn (l:iI)(b v:Nat):Int:=mF l b (ds l b v) v
theorem xq (l:iI)(b:Nat):mn l b b=0:=by unfold mn;rw[jQ];rfl
section
variable {w:Web}(g:Good w)
include g
theorem Good.rW {b v:Nat}(hb:b<w.1)(hv:v<w.1)(ne:v≠b):mn w.2 b v=mn w.2 b (nx w.2 b v)+ov w.2 v (nx w.2 b v):=by obtain⟨_,e,_⟩:=g.sA hb hv ne;unfold mn;rw[e,mF,ah ne]
theorem Good.KS {b:Nat}(hb:b<w.1){P:Nat->Prop}(h0:P b)(hs:∀ v,v<w.1->v≠b->P (nx w.2 b v)->P v):∀ v,v<w.1->P v:=by
 have go:∀ d v,v<w.1->ds w.2 b v=d->P v:=by
  intro d;induction d with
  | zero=>intro v hv e;rw[g.oB hb hv e];exact h0
  | succ d ih =>
   intro v hv e;have ne:v≠b:=λ z=>by rw[z,jQ]at e;lia
   obtain⟨_,e',_⟩:=g.sA hb hv ne;exact hs v hv ne (ih _ (g.OI hb hv ne) (by lia))
 exact λ v hv=>go _ v hv rfl
variable (tr:w.2.length+1=w.1)
include tr
theorem Good.G4 {a b:Nat}(hab:b∈nb w.2 a):ov w.2 a b+ov w.2 b a=2*(w.2.length:Int):=by have:=g.parts tr hab;unfold ov sz;lia
theorem Good.Nb {a b:Nat}(hab:b∈nb w.2 a):∀ v,v<w.1->ds w.2 a v=ds w.2 b v+1->mn w.2 a v=mn w.2 b v+ov w.2 b a:=by
 have ha:=(g.jB hab).2.1;have hb:=(g.jB hab).1;have ba1:ds w.2 b a=1:=(g.Fw hb ha).mpr (nu.mp hab);refine g.KS hb ?_ λ v hv ne ih=>?_
 ·intro e;have ne:b≠a:=(g.jB hab).2.2;have:a=nx w.2 a b:=g.uz tr ha (nu.mp hab) (by rw[jQ,e];lia);rw[g.rW ha hb ne,<-this,xq,xq]
 ·intro e
  obtain⟨h1,h2,_⟩:=g.sA hb hv ne;have hu:=(g.jB h1).1;have h3:=g.sV tr ha h1;have h4:=g.side tr hu hab;have su:ds w.2 a (nx w.2 b v)=ds w.2 b (nx w.2 b v)+1:=by lia
  have va:v≠a:=λ z=>by rw[z,jQ]at e;lia
  have eq:nx w.2 b v=nx w.2 a v:=g.uz tr ha h1 (by lia);rw[g.rW ha hv va,<-eq,ih su,g.rW hb hv ne];lia
theorem Good.Nc {b:Nat}(hb:b<w.1):∀ a,a<w.1->mn w.2 b a+mn w.2 a b=2*(w.2.length:Int)*(ds w.2 b a:Int):=by
 refine g.KS hb (by rw[xq,jQ];simp) λ a ha ne ih=>?_;obtain⟨h1,h2,_⟩:=g.sA hb ha ne;have hu:=(g.jB h1).1;have e:ds w.2 a b=ds w.2 (nx w.2 b a) b+1:=by rw[g.sR ha hb,g.sR hu hb];exact h2
 rw[g.rW hb ha ne,g.Nb tr h1 b hb e,h2];have:=g.G4 tr h1;rw[Int.natCast_add,Int.mul_add];simp;lia
end
section
variable {w:Web}(g:Good w)(tr:w.2.length+1=w.1)
include g tr
end
def eqA (w:Web)(gv:Nat->iA Int)(ad:Nat->Int)(i j:Nat):Int :=
 match gv i with
 | some v=>if j=w.1 then v else if j=i then 1 else 0
 | none=>if j=w.1 then ad i else if j=i then (dg w i:Int) else if j∈nb w.2 i then -1 else 0
theorem BD {n:Nat}(f:Nat->Rat):∀ (xs:List Nat),xs.Nodup->(∀ x∈xs,x<n)->Dt0.sm n (λ j=>if j∈xs then f j else 0)=(xs.map f).sum
 | [],_,_=>by have:Dt0.sm n (λ j=>if j∈([]:List Nat) then f j else 0)=Dt0.sm n (λ _=>0):=Dt0.j8 λ j _=>ah (by simp);rw[this,Dt0.rH];rfl
 | x::r,nd,h=>by
  obtain⟨h1,h2⟩:=bx.mp nd;have ih:=BD f r h2 λ y hy=>h y (av _ hy);have one:Dt0.sm n (λ j=>if j=x then f j else 0)=f x:=by have:=Dt0.qu (f:=λ j=>if j=x then f j else 0) (h x ar) λ j _ ne=>ah ne;rw[this,af rfl]
  have e:Dt0.sm n (λ j=>if j∈x::r then f j else 0)=Dt0.sm n (λ j=>1*(if j=x then f j else 0)+1*(if j∈r then f j else 0)):=Dt0.j8 λ j _=>by
   by_cases c:j=x
   ·subst c;rw[af ar,af rfl,ah h1];grind
   ·by_cases c2:j∈r
    ·rw[af (av _ c2),ah c,af c2];grind
    ·rw[ah (by simp[c,c2]),ah c,ah c2];grind
  rw[e,Dt0.qt,one,ih,aq,aP];grind
section
variable {w:Web}(g:Good w){gv:Nat->iA Int}{ad:Nat->Int}
include g
theorem Good.yN {i:Nat}(hi:i<w.1)(h:gv i=none)(y:Nat->Rat):Dt0.sm w.1 (λ j=>(eqA w gv ad i j:Rat)*y j)=(dg w i:Rat)*y i-((nb w.2 i).map y).sum:=by
 have one:Dt0.sm w.1 (λ j=>if j=i then (dg w i:Rat)*y j else 0)=(dg w i:Rat)*y i:=by have:=Dt0.qu (f:=λ j=>if j=i then (dg w i:Rat)*y j else 0) hi λ j _ ne=>ah ne;rw[this,af rfl]
 have e:Dt0.sm w.1 (λ j=>(eqA w gv ad i j:Rat)*y j)=Dt0.sm w.1 (λ j=>1*(if j=i then (dg w i:Rat)*y j else 0)+-1*(if j∈nb w.2 i then y j else 0)):=Dt0.j8 λ j hj=>by
  unfold eqA;rw[h];show((if j=w.1 then ad i else if j=i then (dg w i:Int) else if j∈nb w.2 i then -1 else 0:Int):Rat)*y j=_;rw[ah (by lia)];by_cases c:j=i
  ·subst c;have:j∉nb w.2 j:=λ m=>(g.jB m).2.2 rfl;rw[af rfl,af rfl,ah this,cf];grind
  ·rw[ah c,ah c]
   by_cases c2:j∈nb w.2 i
   ·rw[af c2,af c2];have:((-1:Int):Rat)=-1:=rfl;rw[this];grind
   ·rw[ah c2,ah c2];have:((0:Int):Rat)=0:=rfl;rw[this];grind
 rw[e,Dt0.qt,one,BD _ _ (g.yJ i) λ x hx=>(g.jB hx).1];grind
omit g in
theorem yO {i:Nat}{v:Int}(hi:i<w.1)(h:gv i=some v)(y:Nat->Rat):Dt0.sm w.1 (λ j=>(eqA w gv ad i j:Rat)*y j)=y i:=by
 have:=Dt0.qu (f:=λ j=>(eqA w gv ad i j:Rat)*y j) hi λ j hj ne=>by unfold eqA;rw[h];show((if j=w.1 then v else if j=i then 1 else 0:Int):Rat)*y j=_;rw[ah (by lia),ah ne];have:((0:Int):Rat)=0:=rfl;rw[this];grind
 rw[this];unfold eqA;rw[h];show((if i=w.1 then v else if i=i then 1 else 0:Int):Rat)*y i=_;rw[ah (by lia),af rfl];have:((1:Int):Rat)=1:=rfl;rw[this];grind
omit g in
theorem KU (n:Nat)(S:Nat->Bool)(f:Nat->Rat):Dt0.sT n S f=Dt0.sm n (λ j=>f j*(if S j=true then 1 else 0)):=by unfold Dt0.sT;exact Dt0.j8 λ j _=>by split<;>grind
omit g in
theorem AM (S:Nat->Bool):∀ (xs:List Nat),(xs.length:Rat)-(xs.map λ j=>if S j=true then (1:Rat) else 0).sum=((xs.countP λ j=>!S j:Nat):Rat)
 | []=>by show((0:Nat):Rat)-0=((0:Nat):Rat);grind
 | x::r=>by
  have ih:=AM S r;rw[aq,aP,aQ,dE];have e1:((r.length+1:Nat):Rat)=(r.length:Rat)+1:=di _ 1;cases c:S x with
  | true =>simp only[dJ,aW,bY,cM,Nat.add_zero];rw[e1,<-ih];grind
  | false =>simp only[gM,aW,bY,cM];have e2:((List.countP (λ j=>!S j) r+1:Nat):Rat)=((List.countP (λ j=>!S j) r:Nat):Rat)+1:=di _ 1;rw[e1,e2,<-ih];grind
theorem Good.G5 {i:Nat}(hi:i<w.1)(h:gv i=none)(S:Nat->Bool)(hs:S i=true):Dt0.sT w.1 S (Dt0.qA (eqA w gv ad) i)=(((nb w.2 i).countP λ j=>!S j:Nat):Rat):=by rw[KU];show Dt0.sm w.1 (λ j=>(eqA w gv ad i j:Rat)*(if S j=true then 1 else 0))=_;rw[g.yN hi h,hs,af rfl,<-AM];show(dg w i:Rat)*1-_=(dg w i:Rat)-_;grind
omit g in
theorem G6 {i:Nat}{v:Int}(hi:i<w.1)(h:gv i=some v)(S:Nat->Bool)(hs:S i=true):Dt0.sT w.1 S (Dt0.qA (eqA w gv ad) i)=1:=by rw[KU];show Dt0.sm w.1 (λ j=>(eqA w gv ad i j:Rat)*(if S j=true then 1 else 0))=_;rw[yO hi h,hs,af rfl]
omit g in
theorem Qx (k:Nat):(0:Rat)<=(k:Rat):=Rat.natCast_nonneg
theorem Good.mm (hg:∃ p,p<w.1/\gv p≠none):Dt0.MM (Dt0.qA (eqA w gv ad)) w.1 0:=by
 refine⟨λ i j _ hi _ hj ne=>?_,λ S i hS hi=>?_,λ S hS hne=>?_⟩
 ·show((eqA w gv ad i j:Int):Rat)<=0
  have:eqA w gv ad i j<=0:=by
   unfold eqA;split
   ·rw[ah (by lia),ah (aX ne)];lia
   ·rw[ah (by lia),ah (aX ne)];split<;>lia
  exact dY.mpr this
 ·show 0<=Dt0.sT w.1 S (Dt0.qA (eqA w gv ad) i)
  cases h:gv i with
  | none=>rw[g.G5 (hS i hi).2 h S hi];exact Qx _
  | some v=>rw[G6 (hS i hi).2 h S hi];decide
 ·show ∃ i,S i=true/\0<Dt0.sT w.1 S (Dt0.qA (eqA w gv ad) i)
  refine aR λ hn=>?_;have no:∀ i,S i=true->¬ 0<Dt0.sT w.1 S (Dt0.qA (eqA w gv ad) i):=λ i hi hp=>hn ⟨i,hi,hp⟩;have gn:∀ i,S i=true->gv i=none:=λ i hi=>by
   cases h:gv i with
   | none=>rfl
   | some v=>exact absurd (by rw[G6 (hS i hi).2 h S hi];decide) (no i hi)
  have cl:∀ u v,v∈nb w.2 u->S u=true->S v=true:=λ u v hv hu=>by
   have:=no u hu;rw[g.G5 (hS u hu).2 (gn u hu) S hu]at this;have z:((nb w.2 u).countP λ j=>!S j)=0:=by
    rcases Nat.eq_zero_or_pos ((nb w.2 u).countP λ j=>!S j) with z | z
    ·exact z
    ·exact absurd (eE.mpr z) this
   have:=gF.mp z v hv;simpa using this
  obtain⟨i0,h0⟩:=hne;obtain⟨p,hp,hgp⟩:=hg;exact hgp (gn p (g.conn (λ v=>S v=true) cl (hS i0 h0).2 hp h0))
def sol (w:Web)(gv:Nat->iA Int)(ad:Nat->Int)(i:Nat):Rat:=Dt0.rd (Dt0.qA (eqA w gv ad)) w.1 i w.1
omit g in
theorem yP (i:Nat):eqA w gv ad i w.1=(match gv i with | some v=>v | none=>ad i):=by unfold eqA;split<;>rw[af rfl]
theorem Good.uB (hg:∃ p,p<w.1/\gv p≠none){i:Nat}{v:Int}(hi:i<w.1)(h:gv i=some v):sol w gv ad i=(v:Rat):=by have:=Dt0.Je (g.mm (ad:=ad) hg).ne hi;rw[yO hi h,yP,h]at this;exact this
theorem Good.DU (hg:∃ p,p<w.1/\gv p≠none){i:Nat}(hi:i<w.1)(h:gv i=none):(dg w i:Rat)*sol w gv ad i=((nb w.2 i).map (sol w gv ad)).sum+(ad i:Rat):=by have:=Dt0.Je (g.mm (ad:=ad) hg).ne hi;rw[g.yN hi h,yP,h]at this;have:(dg w i:Rat)*sol w gv ad i-((nb w.2 i).map (sol w gv ad)).sum=(ad i:Rat):=this;grind
theorem Good.yQ (hg:∃ p,p<w.1/\gv p≠none){y:Nat->Rat}(h1:∀ i v,i<w.1->gv i=some v->y i=(v:Rat))(h2:∀ i,i<w.1->gv i=none->(dg w i:Rat)*y i=((nb w.2 i).map y).sum+(ad i:Rat)){i:Nat}(hi:i<w.1):y i=sol w gv ad i:=by
 refine Dt0.only (g.mm (ad:=ad) hg).ne (λ i hi=>?_) hi;rw[yP];cases h:gv i with
 | none=>rw[g.yN hi h];have:=h2 i hi h;show _=(ad i:Rat);grind
 | some v=>rw[yO hi h];exact h1 i v hi h
end
theorem mN (f h:Nat->Rat):∀ (l:List Nat),(l.map λ x=>f x+h x).sum=(l.map f).sum+(l.map h).sum
 | []=>by show(0:Rat)=0+0;grind
 | x::r=>by rw[aq,aq,aq,aP,aP,aP,mN f h r];grind
theorem oU (c:Rat)(f:Nat->Rat):∀ (l:List Nat),(l.map λ x=>c*f x).sum=c*(l.map f).sum
 | []=>by show(0:Rat)=c*0;grind
 | x::r=>by rw[aq,aq,aP,aP,oU c f r];grind
theorem k_ (c:Rat):∀ (l:List Nat),(l.map λ _=>c).sum=(l.length:Rat)*c
 | []=>by show(0:Rat)=((0:Nat):Rat)*c;grind
 | x::r=>by have:((r.length+1:Nat):Rat)=(r.length:Rat)+1:=di _ 1;rw[aq,aP,k_ c r,aQ,this];grind
theorem jU {f h:Nat->Rat}{l:List Nat}(e:∀ x∈l,f x=h x):(l.map f).sum=(l.map h).sum:=by rw[aK e]
theorem BE (F:Nat->Nat->Rat)(m:List Nat):∀ (l:List Nat),(l.map λ x=>(m.map λ y=>F x y).sum).sum=(m.map λ y=>(l.map λ x=>F x y).sum).sum
 | []=>by show(0:Rat)=(m.map λ _=>0).sum;rw[k_];grind
 | x::r=>by rw[aq,aP,BE F m r,<-mN];exact jU λ y _=>by rw[aq,aP]
theorem mO {f:Nat->Rat}{a:Nat}:∀ {l:List Nat},l.Nodup->a∈l->(l.map λ x=>if x=a then f x else 0).sum=f a
 | x::r,nd,h=>by
  obtain⟨h1,h2⟩:=bx.mp nd;rw[aq,aP];by_cases c:x=a
  ·subst c;have z:(r.map λ y=>if y=x then f y else 0).sum=(r.map λ _=>(0:Rat)).sum:=jU λ y hy=>ah λ(e:y=x)=>h1 (e▸hy);rw[af rfl,z,k_];grind
  ·rcases aN.mp h with e | e
   ·exact absurd e.symm c
   ·rw[ah c,mO h2 e];grind
theorem Qy {f:Nat->Rat}{a:Nat}{l:List Nat}(h:a∉l):(l.map λ x=>if x=a then f x else 0).sum=0:=by have z:(l.map λ y=>if y=a then f y else 0).sum=(l.map λ _=>(0:Rat)).sum:=jU λ y hy=>ah λ(e:y=a)=>h (e▸hy);rw[z,k_];grind
section
variable {w:Web}(g:Good w)
include g
theorem Good.G7 (F:Nat->Nat->Rat):((List.range w.1).map λ i=>((nb w.2 i).map λ u=>F i u).sum).sum=((List.range w.1).map λ u=>((nb w.2 u).map λ i=>F i u).sum).sum:=by
 have one:∀ (p:Nat) (f:Nat->Rat),((nb w.2 p).map f).sum=((List.range w.1).map λ u=>((nb w.2 p).map λ v=>if v=u then f v else 0).sum).sum:=λ p f=>by
  rw[BE];exact jU λ v hv=>by
   refine(mO (f:=λ u=>f v) (a:=v) (l:=List.range w.1) bj (aw.mpr (g.jB hv).1)).symm.trans (jU λ u _=>?_)
   ·by_cases c:u=v
    ·rw[af c,af c.symm]
    ·rw[ah c,ah (aX c)]
 have val:∀ (p u:Nat) (f:Nat->Rat),((nb w.2 p).map λ v=>if v=u then f v else 0).sum=if u∈nb w.2 p then f u else 0:=λ p u f=>by
  by_cases c:u∈nb w.2 p
  ·rw[af c,mO (g.yJ p) c]
  ·rw[ah c,Qy c]
 rw[jU λ i _=>one i (λ u=>F i u),BE];refine jU λ u hu=>?_;rw[one u λ i=>F i u];refine jU λ i hi=>?_;rw[val i u,val u i (λ i=>F i u)];by_cases c:u∈nb w.2 i
 ·rw[af c,af (nu.mp c)]
 ·rw[ah c,ah λ z=>c (nu.mp z)]
theorem Good.Qz:((List.range w.1).map λ i=>(dg w i:Rat)).sum=((2*w.2.length:Nat):Rat):=by
 rw[<-g.hand];have:∀ (l:List Nat),(l.map λ i=>(dg w i:Rat)).sum=(((l.map λ i=>dg w i).sum:Nat):Rat):=λ l=>by
  induction l with
  | nil=>rfl
  | cons x r ih=>rw[aq,aq,aP,aP,ih,di]
 exact this _
omit g in
def gvM (b:Nat)(i:Nat):iA Int:=if i=b then some 0 else none
def meQ (w:Web)(b i:Nat):Rat:=sol w (gvM b) (λ i=>(dg w i:Int)) i
omit g in
theorem oC {b:Nat}(hb:b<w.1):∃ p,p<w.1/\gvM b p≠none:=⟨b,hb,by unfold gvM;rw[af rfl];simp⟩
theorem Good.xr {b:Nat}(hb:b<w.1):meQ w b b=0:=g.uB (oC hb) hb (v:=0) (by unfold gvM;rw[af rfl])
theorem Good.OJ {b i:Nat}(hb:b<w.1)(hi:i<w.1)(ne:i≠b):(dg w i:Rat)*meQ w b i=((nb w.2 i).map (meQ w b)).sum+(dg w i:Rat):=g.DU (oC hb) hi (by unfold gvM;rw[ah ne])
theorem Good.Nd {b:Nat}(hb:b<w.1){y:Nat->Rat}(h0:y b=0)(h:∀ i,i<w.1->i≠b->(dg w i:Rat)*y i=((nb w.2 i).map y).sum+(dg w i:Rat)){i:Nat}(hi:i<w.1):y i=meQ w b i:=by
 refine g.yQ (oC hb) (λ i v hi hv=>?_) (λ i hi hv=>?_) hi
 ·unfold gvM at hv
  by_cases c:i=b
  ·rw[af c]at hv;injection hv with hv;rw[c,h0,<-hv];rfl
  ·rw[ah c]at hv;cases hv
 ·unfold gvM at hv
  by_cases c:i=b
  ·rw[af c]at hv;cases hv
  ·exact h i hi c
theorem Good.Nf {b:Nat}(hb:b<w.1):((nb w.2 b).map (meQ w b)).sum+(dg w b:Rat)=((2*w.2.length:Nat):Rat):=by
 have sw:=g.G7 (λ _ u=>meQ w b u);have e1:((List.range w.1).map λ u=>((nb w.2 u).map λ _=>meQ w b u).sum).sum=((List.range w.1).map λ u=>(dg w u:Rat)*meQ w b u).sum:=jU λ u _=>k_ _ _;have e2:((List.range w.1).map λ u=>(dg w u:Rat)*meQ w b u).sum=((List.range w.1).map λ u=>(((nb w.2 u).map (meQ w b)).sum+(dg w u:Rat))+-1*(if u=b then ((nb w.2 b).map (meQ w b)).sum+(dg w b:Rat) else 0)).sum:=jU λ u hu=>by
  by_cases c:u=b
  ·subst c;rw[af rfl,g.xr hb];grind
  ·rw[ah c,g.OJ hb (aw.mp hu) c];grind
 rw[mN,mN,oU,mO (f:=λ _=>((nb w.2 b).map (meQ w b)).sum+(dg w b:Rat)) bj (aw.mpr hb),g.Qz]at e2;have sw:((List.range w.1).map λ i=>((nb w.2 i).map (meQ w b)).sum).sum=((List.range w.1).map λ u=>((nb w.2 u).map λ _=>meQ w b u).sum).sum:=sw;rw[e1,e2]at sw;generalize ((List.range w.1).map λ i=>((nb w.2 i).map (meQ w b)).sum).sum=x at *;generalize ((nb w.2 b).map (meQ w b)).sum=y at *;grind
omit g in
def gvA (a b:Nat)(i:Nat):iA Int:=if i=a then some 1 else if i=b then some 0 else none
def ahQ (w:Web)(a b i:Nat):Rat:=sol w (gvA a b) (λ _=>0) i
omit g in
theorem xt {a b:Nat}(ha:a<w.1):∃ p,p<w.1/\gvA a b p≠none:=⟨a,ha,by unfold gvA;rw[af rfl];simp⟩
end
theorem DV (P:Nat->Nat->Bool)(ys:List Nat):∀ (xs:List Nat),(xs.map λ u=>ys.countP (P u)).sum=(ys.map λ x=>xs.countP λ u=>P u x).sum
 | []=>by
  show 0=(ys.map λ x=>0).sum;induction ys with
  | nil=>rfl
  | cons y r ih=>rw[aq,aP,<-ih];rfl
 | x::r=>by
  rw[aq,aP,DV P ys r];induction ys with
  | nil=>rfl
  | cons y q ih =>rw[dE,aq,aq,aP,aP,dE,<-ih];lia
theorem G8 {P:Nat->Bool}{a:Nat}:∀ {l:List Nat},l.Nodup->a∈l->(∀ u∈l,P u=true↔u=a)->l.countP P=1
 | x::r,nd,h,hp=>by
  obtain⟨h1,h2⟩:=bx.mp nd;rw[dE];by_cases c:x=a
  ·subst c;have z:r.countP P=0:=gF.mpr λ y hy hpy=>h1 (((hp y (av _ hy)).mp hpy)▸hy);rw[z,(hp x ar).mpr rfl];rfl
  ·have n:P x=false:=by
    cases q:P x with
    | false=>rfl
    | true=>exact absurd ((hp x ar).mp q) c
   rcases aN.mp h with e | e
   ·exact absurd e.symm c
   ·rw[G8 h2 e λ u hu=>hp u (av _ hu),n];rfl
section
variable {w:Web}(g:Good w)(tr:w.2.length+1=w.1)
include g tr
theorem Good.IE {v:Nat}(hv:v<w.1):((nb w.2 v).map λ u=>sz w.2 v u).sum=w.2.length:=by
 have e:(nb w.2 v).map (λ u=>sz w.2 v u)=(nb w.2 v).map λ u=>(List.range w.1).countP λ x=>decide (ds w.2 v x=ds w.2 u x+1):=aK λ u hu=>g.yL tr hu;rw[e,DV (λ u x=>decide (ds w.2 v x=ds w.2 u x+1))];have e2:(List.range w.1).map (λ x=>(nb w.2 v).countP λ u=>decide (ds w.2 v x=ds w.2 u x+1))=(List.range w.1).map λ x=>if x=v then 0 else 1:=aK λ x hx=>by
  have hx:=aw.mp hx;by_cases c:x=v
  ·subst c
   rw[af rfl];refine gF.mpr λ u hu hp=>?_;have hp:ds w.2 x x=ds w.2 u x+1:=by simpa using hp
   rw[jQ]at hp;lia
  ·rw[ah c]
   obtain⟨h1,h2,_⟩:=g.sA hx hv (aX c);refine G8 (g.yJ v) h1 λ u hu=>?_;have hul:=(g.jB hu).1;rw[decide_eq_true_iff,g.sR hv hx,g.sR hul hx];constructor
   ·intro q;exact g.uz tr hx hu (by lia)
   ·intro q;rw[q];exact h2
 rw[e2];have h1:=I8 w.1 (λ x=>if x=v then 0 else 1) (λ x=>if x=v then 1 else 0);have h2:=N8 hv (λ _=>1);have h3:S w.1 (λ x=>(if x=v then 0 else 1)+if x=v then 1 else 0)=w.1:=by
  rw[xi (g:=λ _=>1) λ i _=>by split<;>rfl];have:∀ n,S n (λ _=>1)=n:=λ n=>by
   induction n with
   | zero=>rfl
   | succ n ih=>rw[qr,ih]
  exact this _
 rw[h2,h3]at h1;have:((List.range w.1).map λ x=>if x=v then 0 else 1).sum=S w.1 (λ x=>if x=v then 0 else 1):=rfl;rw[this];lia
theorem Good.SI {b v:Nat}(hb:b<w.1)(hv:v<w.1)(ne:v≠b):(dg w v:Rat)*(mn w.2 b v:Rat)=((nb w.2 v).map λ u=>(mn w.2 b u:Rat)).sum+(dg w v:Rat):=by
 obtain⟨n1,n2,_⟩:=g.sA hb hv ne;have e:(nb w.2 v).map (λ u=>(mn w.2 b u:Rat))=(nb w.2 v).map λ u=>((2*(sz w.2 v u:Rat)+((mn w.2 b v:Rat)-1))+-1*(if u=nx w.2 b v then 2*(w.2.length:Rat) else 0)):=aK λ u hu=>by
  have ob:=g.G4 tr hu;have o2:ov w.2 u v=2*(sz w.2 v u:Int)-1:=rfl;have cz:(((2*(sz w.2 v u:Int)-1:Int)):Rat)=2*(sz w.2 v u:Rat)-1:=by rw[fc,cR,cf];rfl
  by_cases c:u=nx w.2 b v
  ·have st:=g.rW hb hv ne
   rw[<-c]at st;have z:mn w.2 b u=mn w.2 b v+(2*(sz w.2 v u:Int)-1)-2*(w.2.length:Int):=by lia
   have cl:((2*(w.2.length:Int):Int):Rat)=2*(w.2.length:Rat):=by rw[cR,cf];rfl
   rw[af c,z,fc,fe,cz,cl];grind
  ·have far:ds w.2 b u=ds w.2 b v+1:=by
    rcases g.sV tr hb hu with q | q
    ·exact q
    ·exact absurd (g.uz tr hb hu (by lia)) c
   have nb':u≠b:=λ q=>by rw[q,jQ]at far;lia
   have st:=g.rW hb (g.jB hu).1 nb';rw[<-g.uz tr hb (nu.mp hu) (by lia),o2]at st;rw[ah c,st,fe,cz];grind
 have sz':((nb w.2 v).map λ u=>(sz w.2 v u:Rat)).sum=(w.2.length:Rat):=by
  rw[<-g.IE tr hv];have:∀ (l:List Nat),(l.map λ u=>(sz w.2 v u:Rat)).sum=(((l.map λ u=>sz w.2 v u).sum:Nat):Rat):=λ l=>by
   induction l with
   | nil=>rfl
   | cons x r ih=>rw[aq,aq,aP,aP,ih,di]
  exact this _
 rw[e,mN,mN,oU,oU,k_,mO (f:=λ _=>2*(w.2.length:Rat)) (g.yJ v) n1,sz'];show(dg w v:Rat)*_=2*(w.2.length:Rat)+(dg w v:Rat)*_+_+_;grind
theorem Good.OK {b i:Nat}(hb:b<w.1)(hi:i<w.1):meQ w b i=(mn w.2 b i:Rat) :=
 (g.Nd hb (y:=λ v=>(mn w.2 b v:Rat)) (by rw[xq];rfl) (λ v hv ne=>g.SI tr hb hv ne) hi).symm
end
theorem Ng {l l':List Rat}(h:l.Perm l'):l.sum=l'.sum:=by
 induction h with
 | nil=>rfl
 | cons x _ ih=>rw[aP,aP,ih]
 | swap x y l=>rw[aP,aP,aP,aP];grind
 | trans _ _ i1 i2=>rw[i1,i2]
theorem QA (l l':List Rat):(l++l').sum=l.sum+l'.sum:=by
 induction l with
 | nil=>show l'.sum=0+l'.sum;grind
 | cons x r ih=>rw[d3,aP,aP,ih];grind
def dvg (zs:List ((Nat×Nat)×Rat))(p:Nat):Rat:=((zs.filter λ z=>z.1.1==p).map (·.2)).sum-((zs.filter λ z=>z.1.2==p).map (·.2)).sum
theorem pz (z:(Nat×Nat)×Rat)(zs:List ((Nat×Nat)×Rat))(p:Nat):dvg (z::zs) p=dvg zs p+((if p=z.1.1 then z.2 else 0)+-1*(if p=z.1.2 then z.2 else 0)):=by
 unfold dvg;by_cases c:z.1.1=p
 ·rw[dR (by simpa using c),af c.symm,aq,aP]
  by_cases d:z.1.2=p
  ·rw[dR (by simpa using d),af d.symm,aq,aP];grind
  ·rw[dS (by simpa using d),ah (aX d)];grind
 ·rw[dS (by simpa using c),ah (aX c)]
  by_cases d:z.1.2=p
  ·rw[dR (by simpa using d),af d.symm,aq,aP];grind
  ·rw[dS (by simpa using d),ah (aX d)];grind
theorem yR (f:Nat->Rat)(n:Nat):∀ (zs:List ((Nat×Nat)×Rat)),(∀ z∈zs,z.1.1<n/\z.1.2<n)->(zs.map λ z=>z.2*(f z.1.1-f z.1.2)).sum=((List.range n).map λ p=>f p*dvg zs p).sum
 | [],_=>by
  have:((List.range n).map λ p=>f p*dvg [] p).sum=((List.range n).map λ _=>(0:Rat)).sum:=jU λ p _=>by show f p*(0-0)=0;grind
  rw[this,k_];show(0:Rat)=_;grind
 | z::zs,h=>by
  obtain⟨h1,h2⟩:=h z ar;have ih:=yR f n zs λ y hy=>h y (av _ hy);have e:((List.range n).map λ p=>f p*dvg (z::zs) p).sum=((List.range n).map λ p=>f p*dvg zs p+((if p=z.1.1 then f p*z.2 else 0)+-1*(if p=z.1.2 then f p*z.2 else 0))).sum:=jU λ p _=>by
   rw[pz];by_cases c:p=z.1.1
   ·rw[af c,af c]
    by_cases d:p=z.1.2
    ·rw[af d,af d];grind
    ·rw[ah d,ah d];grind
   ·rw[ah c,ah c]
    by_cases d:p=z.1.2
    ·rw[af d,af d];grind
    ·rw[ah d,ah d];grind
  rw[e,mN,mN,oU,mO (f:=λ p=>f p*z.2) bj (aw.mpr h1),mO (f:=λ p=>f p*z.2) bj (aw.mpr h2),aq,aP,ih];grind
def evZ (w:Web)(h:Nat->Rat):List ((Nat×Nat)×Rat):=w.2.map λ t=>(t,h t.1-h t.2)
def lap (w:Web)(h:Nat->Rat)(p:Nat):Rat:=(dg w p:Rat)*h p-((nb w.2 p).map h).sum
theorem SJ (l:iI)(p:Nat)(h:Nat->Rat):((nb l p).map h).sum=((l.filter λ t=>t.2==p).map λ t=>h t.1).sum+((l.filter λ t=>t.1==p).map λ t=>h t.2).sum:=by rw[Ng ((uo l p).map h),a7,QA,aH,aH];rfl
theorem SK (l:iI)(p:Nat):(nb l p).length=(l.filter λ t=>t.2==p).length+(l.filter λ t=>t.1==p).length:=by rw[(uo l p).length_eq,aT,ag,ag]
theorem BF (f:Nat×Nat->Rat)(c:Rat):∀ (l:iI),(l.map λ t=>c-f t).sum=(l.length:Rat)*c-(l.map f).sum
 | []=>by show(0:Rat)=((0:Nat):Rat)*c-0;grind
 | x::r=>by have:((r.length+1:Nat):Rat)=(r.length:Rat)+1:=di _ 1;rw[aq,aq,aP,aP,BF f c r,aQ,this];grind
theorem DW (w:Web)(h:Nat->Rat)(p:Nat):dvg (evZ w h) p=lap w h p:=by
 have e1:((evZ w h).filter λ z=>z.1.1==p).map (·.2)=(w.2.filter λ t=>t.1==p).map λ t=>h p-h t.2:=by
  unfold evZ;rw[List.filter_map,aH];refine aK λ t ht=>?_;have:t.1=p:=by simpa using (aY.mp ht).2
  show h t.1-h t.2=_;rw[this]
 have e2:((evZ w h).filter λ z=>z.1.2==p).map (·.2)=(w.2.filter λ t=>t.2==p).map λ t=>-1*(h p-h t.1):=by
  unfold evZ;rw[List.filter_map,aH];refine aK λ t ht=>?_;have:t.2=p:=by simpa using (aY.mp ht).2
  show h t.1-h t.2=_;rw[this];grind
 have e3:∀ (l:iI) (F:Nat×Nat->Rat),(l.map λ t=>-1*F t).sum=-1*(l.map F).sum:=λ l F=>by
  induction l with
  | nil=>show(0:Rat)=-1*0;grind
  | cons x r ih=>rw[aq,aq,aP,aP,ih];grind
 unfold dvg lap;rw[e1,e2,e3,BF (λ t=>h t.2),BF (λ t=>h t.1),SJ];unfold dg;rw[SK];have:(((w.2.filter λ t=>t.2==p).length+(w.2.filter λ t=>t.1==p).length:Nat):Rat)=((w.2.filter λ t=>t.2==p).length:Rat)+((w.2.filter λ t=>t.1==p).length:Rat):=di _ _;rw[this];grind
section
variable {w:Web}(g:Good w)
include g
theorem Good.Nh (h:Nat->Rat):((List.range w.1).map λ p=>lap w h p).sum=0:=by
 have e:((List.range w.1).map λ p=>lap w h p).sum=((List.range w.1).map λ p=>(dg w p:Rat)*h p+-1*((nb w.2 p).map h).sum).sum:=jU λ p _=>by unfold lap;grind
 have sw:=g.G7 (λ _ u=>h u);have e1:((List.range w.1).map λ u=>((nb w.2 u).map λ _=>h u).sum).sum=((List.range w.1).map λ u=>(dg w u:Rat)*h u).sum:=jU λ u _=>k_ _ _;rw[e1]at sw;have sw:((List.range w.1).map λ i=>((nb w.2 i).map h).sum).sum=((List.range w.1).map λ u=>(dg w u:Rat)*h u).sum:=sw;rw[e,mN,oU,sw];grind
omit g in
def adH (a i:Nat):Int:=if i=a then 1 else 0
def htQ (w:Web)(a b i:Nat):Rat:=sol w (gvM b) (adH a) i
def hiQ (w:Web)(a b:Nat):Rat:=htQ w a b a
theorem Good.rX {a b:Nat}(hb:b<w.1):htQ w a b b=0:=g.uB (oC hb) hb (v:=0) (by unfold gvM;rw[af rfl])
theorem Good.Fx {a b i:Nat}(hb:b<w.1)(hi:i<w.1)(ne:i≠b):lap w (htQ w a b) i=if i=a then 1 else 0:=by
 have:=g.DU (ad:=adH a) (oC hb) hi (by unfold gvM;rw[ah ne]);have this:(dg w i:Rat)*htQ w a b i=((nb w.2 i).map (htQ w a b)).sum+(adH a i:Rat):=this;unfold lap;have e:(adH a i:Rat)=if i=a then 1 else 0:=by
  unfold adH;by_cases c:i=a
  ·rw[af c,af c];rfl
  ·rw[ah c,ah c];rfl
 rw[e]at this;grind
theorem Good.BG {a b:Nat}(hb:b<w.1){y:Nat->Rat}(h0:y b=0)(h:∀ i,i<w.1->i≠b->lap w y i=if i=a then 1 else 0){i:Nat}(hi:i<w.1):y i=htQ w a b i:=by
 refine g.yQ (oC hb) (λ i v hi hv=>?_) (λ i hi hv=>?_) hi
 ·unfold gvM at hv
  by_cases c:i=b
  ·rw[af c]at hv;injection hv with hv;rw[c,h0,<-hv];rfl
  ·rw[ah c]at hv;cases hv
 ·unfold gvM at hv
  by_cases c:i=b
  ·rw[af c]at hv;cases hv
  ·have:=h i hi c
   unfold lap at this;have e:(adH a i:Rat)=if i=a then 1 else 0:=by
    unfold adH;by_cases c:i=a
    ·rw[af c,af c];rfl
    ·rw[ah c,ah c];rfl
   rw[e];grind
theorem Good.vK {a b i:Nat}(ha:a<w.1)(hb:b<w.1)(ne:a≠b)(hi:i<w.1):lap w (htQ w a b) i=(if i=a then 1 else 0)+-1*(if i=b then 1 else 0):=by
 by_cases c:i=b
 ·have s:=g.Nh (htQ w a b)
  have e:((List.range w.1).map λ p=>lap w (htQ w a b) p).sum=((List.range w.1).map λ p=>(if p=a then (1:Rat) else 0)+(if p=b then lap w (htQ w a b) p else 0)).sum:=jU λ p hp=>by
   by_cases d:p=b
   ·rw[af d,ah (by lia)];grind
   ·rw[ah d,g.Fx hb (aw.mp hp) d];grind
  rw[e,mN,mO (f:=λ _=>(1:Rat)) bj (aw.mpr ha),mO (f:=λ p=>lap w (htQ w a b) p) bj (aw.mpr hb)]at s;rw[c,af rfl,ah (aX ne)];grind
 ·rw[g.Fx hb hi c,ah c];grind
omit g in
theorem uC (x y:Rat)(f h:Nat->Rat)(p:Nat):lap w (λ i=>x*f i+y*h i) p=x*lap w f p+y*lap w h p:=by
 unfold lap;have e:((nb w.2 p).map λ i=>x*f i+y*h i).sum=x*((nb w.2 p).map f).sum+y*((nb w.2 p).map h).sum:=by rw[mN,oU,oU]
 rw[e];grind
omit g in
theorem vL (c:Rat)(p:Nat):lap w (λ _=>c) p=0:=by unfold lap;rw[k_];show(dg w p:Rat)*c-(dg w p:Rat)*c=0;grind
theorem Good.KW {b i:Nat}(hb:b<w.1)(hi:i<w.1):lap w (meQ w b) i=(dg w i:Rat)+-1*(if i=b then ((2*w.2.length:Nat):Rat) else 0):=by
 unfold lap;by_cases c:i=b
 ·subst c;have:=g.Nf hi;rw[af rfl,g.xr hi];grind
 ·have:=g.OJ hb hi c;rw[ah c];grind
theorem Good.SM {a b i:Nat}(ha:a<w.1)(hb:b<w.1)(hi:i<w.1):htQ w a b i=(((2*w.2.length:Nat):Rat))⁻¹*(meQ w b i-meQ w a i+meQ w a b):=by
 have mp:0<2*w.2.length:=by have:=dh.mpr g.ne;lia
 have mq:((2*w.2.length:Nat):Rat)≠0:=by have:(0:Rat)<((2*w.2.length:Nat):Rat):=eE.mpr mp;grind
 have cc:=bZ _ mq;refine(g.BG (y:=λ i=>(((2*w.2.length:Nat):Rat))⁻¹*(meQ w b i-meQ w a i+meQ w a b)) hb ?_ (λ i hi ne=>?_) hi).symm
 ·show _*(meQ w b b-meQ w a b+meQ w a b)=0;rw[g.xr hb];grind
 ·have e:(λ i=>(((2*w.2.length:Nat):Rat))⁻¹*(meQ w b i-meQ w a i+meQ w a b))=λ i=>1*((λ i=>(((2*w.2.length:Nat):Rat))⁻¹*meQ w b i+-(((2*w.2.length:Nat):Rat))⁻¹*meQ w a i) i)+1*((λ _=>(((2*w.2.length:Nat):Rat))⁻¹*meQ w a b) i):=by funext i;grind
  rw[e,uC,uC,vL,g.KW hb hi,g.KW ha hi,ah ne];by_cases c:i=a
  ·rw[af c,af c];grind
  ·rw[ah c,ah c];grind
theorem Good.xu {a b:Nat}(ha:a<w.1)(hb:b<w.1):meQ w b a+meQ w a b=((2*w.2.length:Nat):Rat)*hiQ w a b:=by
 have mp:0<2*w.2.length:=by have:=dh.mpr g.ne;lia
 have mq:((2*w.2.length:Nat):Rat)≠0:=by have:(0:Rat)<((2*w.2.length:Nat):Rat):=eE.mpr mp;grind
 have cc:=bZ _ mq;unfold hiQ;rw[g.SM ha hb ha,g.xr ha,<-Rat.mul_assoc,cc];grind
theorem Good.QB {a b:Nat}(ha:a<w.1)(hb:b<w.1):hiQ w a b=hiQ w b a:=by
 have mp:0<2*w.2.length:=by have:=dh.mpr g.ne;lia
 have mq:((2*w.2.length:Nat):Rat)≠0:=by have:(0:Rat)<((2*w.2.length:Nat):Rat):=eE.mpr mp;grind
 have h1:=g.xu ha hb;have h2:=g.xu hb ha;have h3:((2*w.2.length:Nat):Rat)*(hiQ w a b-hiQ w b a)=0:=by grind
 rcases gw.mp h3 with z | z
 ·exact absurd z mq
 ·grind
theorem Good.sW {t:Nat×Nat}(h:t∈w.2):t.1<w.1/\t.2<w.1:=by have:=g.ok t h;lia
theorem Good.vM {a b:Nat}(ha:a<w.1)(hb:b<w.1){zs:List ((Nat×Nat)×Rat)}(hz:∀ z∈zs,z.1∈w.2)(hd:∀ p,p<w.1->dvg zs p=(if p=a then 1 else 0)+-1*(if p=b then 1 else 0))(f:Nat->Rat):(zs.map λ z=>z.2*(f z.1.1-f z.1.2)).sum=f a-f b:=by
 rw[yR f w.1 zs λ z h=>g.sW (hz z h)];have e:((List.range w.1).map λ p=>f p*dvg zs p).sum=((List.range w.1).map λ p=>(if p=a then f p else 0)+-1*(if p=b then f p else 0)).sum:=jU λ p hp=>by
  rw[hd p (aw.mp hp)];by_cases c:p=a
  ·rw[af c,af c]
   by_cases d:p=b
   ·rw[af d,af d];grind
   ·rw[ah d,ah d];grind
  ·rw[ah c,ah c]
   by_cases d:p=b
   ·rw[af d,af d];grind
   ·rw[ah d,ah d];grind
 rw[e,mN,oU,mO (f:=f) bj (aw.mpr ha),mO (f:=f) bj (aw.mpr hb)];grind
theorem Good.BH {a b:Nat}(ha:a<w.1)(hb:b<w.1)(ne:a≠b):∀ p,p<w.1->dvg (evZ w (htQ w a b)) p=(if p=a then 1 else 0)+-1*(if p=b then 1 else 0):=λ p hp=>by rw[DW];exact g.vK ha hb ne hp
omit g in
theorem KY {h:Nat->Rat}:∀ z∈evZ w h,z.1∈w.2:=λ z hz=>by obtain⟨t,ht,rfl⟩:=aD.mp hz;exact ht
theorem Good.nN {a b:Nat}(ha:a<w.1)(hb:b<w.1)(ne:a≠b):(w.2.map λ t=>(htQ w a b t.1-htQ w a b t.2)*(htQ w a b t.1-htQ w a b t.2)).sum=hiQ w a b:=by
 have:=g.vM ha hb KY (g.BH ha hb ne) (htQ w a b);rw[g.rX hb]at this;unfold evZ at this;rw[aH]at this;have e:htQ w a b a-0=hiQ w a b:=by unfold hiQ;grind
 rw[e]at this;exact this
end
theorem sX {α:Type}(x y:Rat)(f h:α->Rat):∀ (l:List α),(l.map λ z=>x*f z+y*h z).sum=x*(l.map f).sum+y*(l.map h).sum
 | []=>by show(0:Rat)=x*0+y*0;grind
 | z::r=>by rw[aq,aq,aq,aP,aP,aP,sX x y f h r];grind
theorem OL (x:Rat):0<=x*x:=by
 rcases Rat.le_total (a:=0) (b:=x) with h | h
 ·exact hW h h
 ·have:=hW (a:=-x) (b:=-x) (by grind) (by grind);grind
theorem yS {α:Type}(f:α->Rat):∀ (l:List α),0<=(l.map λ z=>f z*f z).sum
 | []=>by show(0:Rat)<=0;decide
 | z::r=>by rw[aq,aP];have:=yS f r;have:=OL (f z);grind
theorem yT {α:Type}(f:α->Rat):∀ (l:List α),(l.map λ z=>f z*f z).sum=0->∀ z∈l,f z=0
 | [],_,z,hz=>by cases hz
 | y::r,h,z,hz=>by
  rw[aq,aP]at h;have h1:=yS f r;have h2:=OL (f y);rcases aN.mp hz with e | e
  ·rw[e]
   have:f y*f y=0:=by grind
   rcases gw.mp this with q | q<;>exact q
  ·exact yT f r (by grind) z e
section
variable {w:Web}(g:Good w)
include g
theorem Good.SN {a b:Nat}(ha:a<w.1)(hb:b<w.1)(ne:a≠b):0<=hiQ w a b:=by rw[<-g.nN ha hb ne];exact yS (λ t:Nat×Nat=>htQ w a b t.1-htQ w a b t.2) w.2
theorem Good.yU {a b:Nat}(ha:a<w.1)(hb:b<w.1)(ne:a≠b):0<hiQ w a b:=by
 refine aR λ hn=>?_;have z:hiQ w a b=0:=by have:=g.SN ha hb ne;grind
 have ev:=g.nN ha hb ne;rw[z]at ev;have al:=yT (λ t:Nat×Nat=>htQ w a b t.1-htQ w a b t.2) w.2 ev;have la:=g.vK ha hb ne ha;rw[af rfl,ah ne,<-DW]at la;have:dvg (evZ w (htQ w a b)) a=0:=by
  have nil:∀ (l:List ((Nat×Nat)×Rat)),(∀ z∈l,z.2=0)->(l.map (·.2)).sum=0:=λ l=>by
   induction l with
   | nil=>intro _;rfl
   | cons y r ih =>intro h;rw[aq,aP,ih λ z hz=>h z (av _ hz),h y ar];grind
  have in0:∀ z∈evZ w (htQ w a b),z.2=0:=λ z hz=>by obtain⟨t,ht,rfl⟩:=aD.mp hz;exact al t ht
  unfold dvg;rw[nil _ λ z hz=>in0 z (aY.mp hz).1,nil _ λ z hz=>in0 z (aY.mp hz).1];grind
 rw[this]at la;grind
theorem Good.KZ {a b:Nat}(ha:a<w.1)(hb:b<w.1)(ne:a≠b){zs:List ((Nat×Nat)×Rat)}(hz:zs.map (·.1)=w.2)(hd:∀ p,p<w.1->dvg zs p=(if p=a then 1 else 0)+-1*(if p=b then 1 else 0)) :
  (zs.map λ z=>z.2*z.2).sum=hiQ w a b+(zs.map λ z=>(z.2-(htQ w a b z.1.1-htQ w a b z.1.2))*(z.2-(htQ w a b z.1.1-htQ w a b z.1.2))).sum:=by
 have p1:=g.vM ha hb (λ z h=>by rw[<-hz];exact aD.mpr ⟨z,h,rfl⟩) hd (htQ w a b);rw[g.rX hb]at p1;have ev:=g.nN ha hb ne;rw[<-hz,aH]at ev;have ev:(zs.map λ z=>(htQ w a b z.1.1-htQ w a b z.1.2)*(htQ w a b z.1.1-htQ w a b z.1.2)).sum=hiQ w a b:=ev;have e:zs.map (λ z=>(z.2-(htQ w a b z.1.1-htQ w a b z.1.2))*(z.2-(htQ w a b z.1.1-htQ w a b z.1.2)))=zs.map λ z=>1*(z.2*z.2)+1*((λ z:(Nat×Nat)×Rat=>-2*(z.2*(htQ w a b z.1.1-htQ w a b z.1.2))+1*((htQ w a b z.1.1-htQ w a b z.1.2)*(htQ w a b z.1.1-htQ w a b z.1.2))) z):=aK λ z _=>by grind
 rw[e,sX,sX,p1,ev];have:htQ w a b a=hiQ w a b:=rfl;rw[this];grind
theorem Good.OM {a b i:Nat}(ha:a<w.1)(hb:b<w.1)(ne:a≠b)(hi:i<w.1):ahQ w a b i=(hiQ w a b)⁻¹*htQ w a b i:=by
 have pos:=g.yU ha hb ne;have cc:=bZ (hiQ w a b) (by grind);refine(g.yQ (gv:=gvA a b) (ad:=λ _=>0) (xt ha) (y:=λ i=>(hiQ w a b)⁻¹*htQ w a b i) (λ i v hi hv=>?_) (λ i hi hv=>?_) hi).symm
 ·unfold gvA at hv
  by_cases c:i=a
  ·rw[af c]at hv;injection hv with hv;rw[c,<-hv];show(hiQ w a b)⁻¹*hiQ w a b=1;grind
  ·rw[ah c]at hv
   by_cases d:i=b
   ·rw[af d]at hv;injection hv with hv;rw[d,<-hv,g.rX hb];show _*(0:Rat)=0;grind
   ·rw[ah d]at hv;cases hv
 ·unfold gvA at hv
  by_cases c:i=a
  ·rw[af c]at hv;cases hv
  ·rw[ah c]at hv
   by_cases d:i=b
   ·rw[af d]at hv;cases hv
   ·have:=g.vK ha hb ne hi
    rw[ah c,ah d]at this;unfold lap at this;have z:((0:Int):Rat)=0:=rfl;rw[z,oU];generalize ((nb w.2 i).map (htQ w a b)).sum=x at *;have h2:(dg w i:Rat)*htQ w a b i=x:=by grind
    rw[<-h2];grind
theorem Good.K0 {a b:Nat}(ha:a<w.1)(hb:b<w.1)(ne:a≠b){l:Nat->Rat}(la:l a=1)(lb:l b=0):(w.2.map λ t=>(l t.1-l t.2)*(l t.1-l t.2)).sum=(hiQ w a b)⁻¹+(w.2.map λ t=>((l t.1-l t.2)-(hiQ w a b)⁻¹*(htQ w a b t.1-htQ w a b t.2))*((l t.1-l t.2)-(hiQ w a b)⁻¹*(htQ w a b t.1-htQ w a b t.2))).sum:=by
 have pos:=g.yU ha hb ne;have cc:=bZ (hiQ w a b) (by grind);have p1:=g.vM ha hb KY (g.BH ha hb ne) l;unfold evZ at p1;rw[aH,la,lb]at p1;have p1:(w.2.map λ t=>(htQ w a b t.1-htQ w a b t.2)*(l t.1-l t.2)).sum=1-0:=p1;have ev:=g.nN ha hb ne;have e:w.2.map (λ t=>((l t.1-l t.2)-(hiQ w a b)⁻¹*(htQ w a b t.1-htQ w a b t.2))*((l t.1-l t.2)-(hiQ w a b)⁻¹*(htQ w a b t.1-htQ w a b t.2)))=w.2.map λ t=>1*((l t.1-l t.2)*(l t.1-l t.2))+1*((λ t:Nat×Nat=>-2*(hiQ w a b)⁻¹*((htQ w a b t.1-htQ w a b t.2)*(l t.1-l t.2))+((hiQ w a b)⁻¹*(hiQ w a b)⁻¹)*((htQ w a b t.1-htQ w a b t.2)*(htQ w a b t.1-htQ w a b t.2))) t):=aK λ t _=>by grind
 rw[e,sX,sX,p1,ev];generalize (w.2.map λ t=>(l t.1-l t.2)*(l t.1-l t.2)).sum=x;generalize hiQ w a b=r at *;grind
theorem Good.Ni {a b:Nat}(ha:a<w.1)(hb:b<w.1)(ne:a≠b):(w.2.map λ t=>(ahQ w a b t.1-ahQ w a b t.2)*(ahQ w a b t.1-ahQ w a b t.2)).sum=(hiQ w a b)⁻¹:=by
 have pos:=g.yU ha hb ne;have cc:=bZ (hiQ w a b) (by grind);have ev:=g.nN ha hb ne;have e:w.2.map (λ t=>(ahQ w a b t.1-ahQ w a b t.2)*(ahQ w a b t.1-ahQ w a b t.2))=w.2.map λ t=>((hiQ w a b)⁻¹*(hiQ w a b)⁻¹)*((htQ w a b t.1-htQ w a b t.2)*(htQ w a b t.1-htQ w a b t.2))+0*0:=aK λ t ht=>by obtain⟨h1,h2⟩:=g.sW ht;rw[g.OM ha hb ne h1,g.OM ha hb ne h2];grind
 rw[e,sX (h:=λ _=>0),ev];generalize hiQ w a b=r at *;grind
theorem Good.K1 {a b:Nat}(hb:b<w.1):∀ i,i<w.1->0<=htQ w a b i:=by
 have least:∀ n,0<n->∃ m,m<n/\∀ j,j<n->htQ w a b m<=htQ w a b j:=λ n=>by
  induction n with
  | zero=>intro h;lia
  | succ n ih =>
   intro _;by_cases h0:n=0
   ·subst h0
    refine⟨0,by lia,λ j hj=>?_⟩;have z:j=0:=by lia
    rw[z];exact Rat.le_refl
   ·obtain⟨m,hm,hl⟩:=ih (by lia)
    rcases Rat.le_total (a:=htQ w a b m) (b:=htQ w a b n) with q | q
    ·exact⟨m,by lia,λ j hj=>by
      by_cases e:j=n
      ·rw[e];exact q
      ·exact hl j (by lia)⟩
    ·exact⟨n,by lia,λ j hj=>by
      by_cases e:j=n
      ·rw[e];exact Rat.le_refl
      ·exact Rat.le_trans q (hl j (by lia))⟩
 obtain⟨m,hm,hl⟩:=least w.1 (by have:=g.two;lia);intro i hi;refine aR λ hn=>?_;have neg:htQ w a b m<0:=by have:=hl i hi;grind
 have cl:∀ u v,v∈nb w.2 u->htQ w a b u=htQ w a b m->htQ w a b v=htQ w a b m:=λ u v hv hu=>by
  have hul:=(g.jB hv).2.1;have ub:u≠b:=λ e=>by rw[e,g.rX hb]at hu;grind
  have la:=g.Fx (a:=a) hb hul ub;unfold lap at la;have p:∀ (l:List Nat),(∀ x∈l,htQ w a b m<=htQ w a b x)->(l.length:Rat)*htQ w a b m<=(l.map (htQ w a b)).sum/\((l.map (htQ w a b)).sum<=(l.length:Rat)*htQ w a b m->∀ x∈l,htQ w a b x=htQ w a b m):=λ l=>by
   induction l with
   | nil =>intro _;refine⟨?_,λ _ x hx=>by cases hx⟩;show((0:Nat):Rat)*_<=0;have:((0:Nat):Rat)=0:=rfl;rw[this];grind
   | cons y r ih =>
    intro h;obtain⟨i1,i2⟩:=ih λ x hx=>h x (av _ hx);have hy:=h y ar;have e:((r.length+1:Nat):Rat)=(r.length:Rat)+1:=di _ 1;rw[aq,aP,aQ,e];refine⟨by grind,λ q x hx=>?_⟩;rcases aN.mp hx with z | z
    ·rw[z];grind
    ·exact i2 (by grind) x z
  have nn:(0:Rat)<=if u=a then 1 else 0:=by split<;>decide
  refine(p (nb w.2 u) λ x hx=>hl x (g.jB hx).1).2 ?_ v hv;show _<=(dg w u:Rat)*htQ w a b m;rw[hu]at la;grind
 have:=g.conn (λ v=>htQ w a b v=htQ w a b m) cl hm hb rfl;rw[g.rX hb]at this;grind
theorem Good.QC {a b i:Nat}(ha:a<w.1)(hb:b<w.1)(ne:a≠b)(hi:i<w.1):htQ w a b i+htQ w b a i=hiQ w a b:=by
 have h:=g.BG (a:=b) (b:=a) (y:=λ i=>-1*htQ w a b i+1*((λ _=>hiQ w a b) i)) ha (by show -1*hiQ w a b+1*hiQ w a b=0;grind) (λ i hi na=>by rw[uC,vL,g.vK ha hb ne hi,ah na];grind) hi
 rw[<-h];grind
theorem Good.Nj {a b:Nat}(ha:a<w.1)(hb:b<w.1)(ne:a≠b){i:Nat}(hi:i<w.1):htQ w a b i<=hiQ w a b:=by have h1:=g.QC ha hb ne hi;have h2:=g.K1 (a:=b) ha i hi;grind
theorem Good.QD {a b c:Nat}(ha:a<w.1)(hb:b<w.1)(hc:c<w.1)(nab:a≠b)(nac:a≠c)(ncb:c≠b):hiQ w a b<=hiQ w a c+hiQ w c b:=by
 have h:∀ i,i<w.1->1*((λ i=>1*htQ w a c i+1*htQ w c b i) i)+1*((λ _=>-1*htQ w a c b) i)=htQ w a b i:=λ i hi =>g.BG (a:=a) (b:=b) (y:=λ i=>1*((λ i=>1*htQ w a c i+1*htQ w c b i) i)+1*((λ _=>-1*htQ w a c b) i)) hb (by show 1*(1*htQ w a c b+1*htQ w c b b)+1*(-1*htQ w a c b)=0;rw[g.rX hb];grind) (λ i hi nb=>by rw[uC,uC,vL,g.vK ha hc nac hi,g.vK hc hb ncb hi,ah nb];grind) hi
 have ha':=h a ha;have l1:=g.K1 (a:=a) hc b hb;have l2:=g.Nj hc hb ncb ha;have e1:htQ w a c a=hiQ w a c:=rfl;have e2:htQ w a b a=hiQ w a b:=rfl;have ha':1*(1*htQ w a c a+1*htQ w c b a)+1*(-1*htQ w a c b)=htQ w a b a:=ha';rw[e1,e2]at ha';grind
theorem Good.Nk (tr:w.2.length+1=w.1){a b:Nat}(ha:a<w.1)(hb:b<w.1):hiQ w a b=(ds w.2 a b:Rat):=by
 have mp:0<2*w.2.length:=by have:=dh.mpr g.ne;lia
 have mq:((2*w.2.length:Nat):Rat)≠0:=by have:(0:Rat)<((2*w.2.length:Nat):Rat):=eE.mpr mp;grind
 have h1:=g.xu ha hb;rw[g.OK tr hb ha,g.OK tr ha hb,<-fe,g.Nc tr hb a ha,g.sR hb ha]at h1;have e:((2*(w.2.length:Int)*(ds w.2 a b:Int):Int):Rat)=((2*w.2.length:Nat):Rat)*(ds w.2 a b:Rat):=by
  have:(2*(w.2.length:Int)*(ds w.2 a b:Int):Int)=((2*w.2.length*ds w.2 a b:Nat):Int):=by simp
  rw[this,cf,hV]
 rw[e]at h1;have h3:((2*w.2.length:Nat):Rat)*(hiQ w a b-(ds w.2 a b:Rat))=0:=by grind
 rcases gw.mp h3 with z | z
 ·exact absurd z mq
 ·grind
end
end L2
namespace L2
open PySem PySem.Spec PyProof.Rows Zp PySem.SeqAt
section
variable {X:Cx}{e a b c:Expr}{es:List Expr}{pos:Pos}{pins:iJ}{σ:St}{H:Hp}{s:iH}
def mH (kvs:List (Int×Int))(k:Int):iA Int:=(kvs.find? λ q=>decide (q.1=k)).map (·.2)
def IF:Dt->Dt->iA Dt
 | .dct kvs,.int k=>(mH kvs k).map .int
 | _,_=>none
theorem yV (kvs:List (Int×Int))(k:Int):nE (kvD kvs) (Sum.inl k)=(mH kvs k).map V.int:=by unfold nE kvD mH;rw[List.find?_map];simp[eM]
theorem ON {ga gb:DE->iA Dt}(hu:X.A.units+1<cLine)(ha:PD X a ga)(hb:PD X b gb)(hs:PM b:=by exact λ _ _=>rfl):PD X (.Subscript a b pos) (iY IF ga gb) :=
 (Gn hu ha hb hs).of λ σ H Q ⟨δ,d,S,e,q⟩=>by
  obtain⟨x,y,e1,e2,e3⟩:=yk e;refine⟨δ,x,S,e1,λ v H1 s1 i1=>⟨δ,y,S.ext s1,e2,λ w H2 s2 i2=>?_⟩⟩;match x,y,e3 with
  | .dct kvs,.int k,e3 =>obtain⟨r,e4,rfl⟩:=jr (show(mH kvs k).map _=_ from e3);obtain⟨p,rfl,hp⟩:=(i1.ext s2).rN;have:=i2.int_inv;subst this;refine⟨p,.int r,rfl,?_,q _ H2 (s1.trans s2) (.int r)⟩;have g:tT H2 p (kV (Sum.inl k)) (nE (kvD kvs) (Sum.inl k)):=.inl ⟨kvD kvs,Sum.inl k,hp,rfl,rfl⟩;rw[yV,e4]at g;exact g
def uD (d:Dt)(es:List Dt):Bool:=es.any λ e=>dEq e d
def dIn (neg:Bool):Dt->Dt->iA Dt
 | d,.tup es=>if (es.all λ e=>sh2 e d)=true then some (.bl (if neg then !uD d es else uD d es)) else none
 | d,.lst es=>if (es.all λ e=>sh2 e d)=true then some (.bl (if neg then !uD d es else uD d es)) else none
 | _,_=>none
open Classical in
def isIt (its:List iG)(es:List Dt)(d:Dt)(w:iG):Bool:=decide (∃ (j:Nat) (e:Dt),its[j]?=some w/\es[j]?=some e/\dEq e d=true)
theorem uE {its:List iG}{es:List Dt}{d:Dt}{w:iG}:isIt its es d w=true↔∃ (j:Nat) (e:Dt),its[j]?=some w/\es[j]?=some e/\dEq e d=true:=by unfold isIt;exact @decide_eq_true_iff _ (Classical.propDecidable _)
theorem uF {xs:List V}{its:List iG}{es:List Dt}{d:Dt}(js:Iss X.K H xs es)(r:Vals xs its):its.any (isIt its es d)=uD d es:=by
 rw[bH,fZ];unfold uD;rw[fZ];constructor
 ·rintro⟨w,_,h⟩;obtain⟨j,e,h1,h2,h3⟩:=uE.mp h;exact⟨e,a8 h2,h3⟩
 ·rintro⟨e,he,h⟩
  obtain⟨j,hj,ej⟩:=bV he;have ej:es[j]?=some e:=by rw[aC hj,ej]
  obtain⟨v,hv,iv⟩:=js.get ej;obtain⟨u,hu,_⟩:=r.get hv;exact⟨u,a8 hu,uE.mpr ⟨j,e,hu,ej,h⟩⟩
theorem xw {A:Around}(I:Inv X pins σ H s)(hu:A.units<cLine){xs:List V}{its:List iG}{es:List Dt}{d:Dt}{x:V}{v:iG}(js:Iss X.K H xs es)(r:Vals xs its)(i:Is X.K H x d)(rx:RelV x v)
  (sh:(es.all λ e=>sh2 e d)=true) (w:iG) (hw:w∈its):EqAt A s w v (isIt its es d w):=by
 have at_:∀ j e,its[j]?=some w->es[j]?=some e->EqAt A s w v (dEq e d):=λ j e h1 h2=>by obtain⟨y,u,hu',ru,iy⟩:=js.vals I r h2;rw[h1]at hu';cases hu';exact GP I hu (dz.mp sh e (a8 h2)) iy i ru rx
 cases hq:isIt its es d w with
 | true =>obtain⟨j,e,h1,h2,h3⟩:=uE.mp hq;have:=at_ j e h1 h2;rw[h3]at this;exact this
 | false =>
  obtain⟨j,hj,ej⟩:=bV hw;have hl:its.length=es.length:=by rw[<-r.length,js.length]
  have h1:its[j]?=some w:=by rw[aC hj,ej]
  have h2:es[j]?=some es[j]:=aC (by lia);have:=at_ j _ h1 h2;have n:¬ dEq es[j] d=true:=λ z=>by rw[uE.mpr ⟨j,_,h1,h2,z⟩]at hq;cases hq
  rw[Bool.not_eq_true]at n;rw[n]at this;exact this
set_option tactic.hygienic true in
theorem Vp (hu:X.A.units+2<cLine):OpR X (compareOp .In) (rD X.K (dIn false)):=by
 intro pins s σ H x y v u Q I rx ry ⟨d,d',r,i,i',e,q⟩;have hu1:X.A.in1.units<cLine:=by have:X.A.in1.units=X.A.units+1:=rfl;lia
 cases d'<;>try (cases e;done)
 ·rename_i es
  have e:(if (es.all λ e=>sh2 e d)=true then some (Dt.bl (uD d es)) else none)=some r:=e;split at e
  ·rename_i sh;cases e;obtain⟨p,xs,rfl,hp,js⟩:=i'.jy;cases ry;obtain⟨its,rv,pl,hz⟩:=I.tuple hp;refine in_tupleAt (isIt its es d) pl (λ w hw=>xw I hu1 js rv i rx sh w (by simpa using hw)) ⟨.bl _,H,I,rfl,?_⟩;rw[f9,uF js rv];exact q _ H (iZ.refl H) (.bl _)
  ·cases e
 ·rename_i es
  have e:(if (es.all λ e=>sh2 e d)=true then some (Dt.bl (uD d es)) else none)=some r:=e;split at e
  ·rename_i sh;cases e;obtain⟨p,xs,rfl,hp,js⟩:=i'.lst_inv;cases ry;obtain⟨its,rv,pl,hz⟩:=I.list (SqL.of hp);refine in_listAt (isIt its es d) pl.isList (λ w hw=>xw I hu1 js rv i rx sh w (by simpa using hw)) ⟨.bl _,H,I,rfl,?_⟩;rw[f9,uF js rv];exact q _ H (iZ.refl H) (.bl _)
  ·cases e
set_option tactic.hygienic true in
theorem Nl (hu:X.A.units+2<cLine):OpR X (compareOp .NotIn) (rD X.K (dIn true)):=by
 intro pins s σ H x y v u Q I rx ry ⟨d,d',r,i,i',e,q⟩;have hu1:X.A.in1.units<cLine:=by have:X.A.in1.units=X.A.units+1:=rfl;lia
 cases d'<;>try (cases e;done)
 ·rename_i es
  have e:(if (es.all λ e=>sh2 e d)=true then some (Dt.bl (!uD d es)) else none)=some r:=e;split at e
  ·rename_i sh;cases e;obtain⟨p,xs,rfl,hp,js⟩:=i'.jy;cases ry;obtain⟨its,rv,pl,hz⟩:=I.tuple hp;refine notIn_tupleAt (isIt its es d) pl (λ w hw=>xw I hu1 js rv i rx sh w (by simpa using hw)) ⟨.bl _,H,I,rfl,?_⟩;rw[f9,uF js rv];exact q _ H (iZ.refl H) (.bl _)
  ·cases e
 ·rename_i es
  have e:(if (es.all λ e=>sh2 e d)=true then some (Dt.bl (!uD d es)) else none)=some r:=e;split at e
  ·rename_i sh;cases e;obtain⟨p,xs,rfl,hp,js⟩:=i'.lst_inv;cases ry;obtain⟨its,rv,pl,hz⟩:=I.list (SqL.of hp);refine notIn_listAt (isIt its es d) pl.isList (λ w hw=>xw I hu1 js rv i rx sh w (by simpa using hw)) ⟨.bl _,H,I,rfl,?_⟩;rw[f9,uF js rv];exact q _ H (iZ.refl H) (.bl _)
  ·cases e
def oq:Dt->iA Dt
 | .int i=>some (.int (-i))
 | _=>none
def gUn (f:Dt->iA Dt)(g:DE->iA Dt):DE->iA Dt:=λ δ=>(g δ).bind f
theorem yW {ga:DE->iA Dt}(ha:PD X a ga):PD X (.UnaryOp .USub a pos) (gUn oq ga):=(RP Pp ha).of λ σ H Q ⟨δ,d,S,e,q⟩=>by
 obtain⟨x,e1,e2⟩:=iP e;match x,e2 with
 | .int i,e2 =>cases e2;exact⟨δ,_,S,e1,λ v H1 s1 i1=>⟨i,i1.int_inv,q _ H1 s1 (.int _)⟩⟩
end
open PySem.W Tb
section
variable {X:Cx}{pins:iJ}{σ:St}{H:Hp}{s:iH}
end
section
variable {X:Cx}{pins:iJ}{σ:St}{H:Hp}{s:iH}
end
end L2
namespace L2
open PySem PySem.Spec PyProof.Rows Zp Qs
def dD (d:Dt):iA iI:=(Qj d).bind λ kvs=>if j5 (kvs.map λ q=>(q.1.toNat,q.2.toNat))=kvs then some (kvs.map λ q=>(q.1.toNat,q.2.toNat)) else none
@[simp] theorem Vq (fd:iI):dD (.dct (j5 fd))=some fd:=by
 have e:(j5 fd).map (λ q=>(q.1.toNat,q.2.toNat))=fd:=by
  unfold j5;rw[aH];conv=>rhs;rw[<-ip fd]
  exact aK λ q _=>by simp
 show(if j5 ((j5 fd).map λ q=>(q.1.toNat,q.2.toNat))=j5 fd then some ((j5 fd).map λ q=>(q.1.toNat,q.2.toNat)) else none)=_;rw[e,af rfl]
theorem IG (fd:iI)(k:Nat):mH (j5 fd) (k:Int)=if oA fd k=true then some ((look fd k:Nat):Int) else none:=by
 have h:=yV (j5 fd) k;rw[uu]at h;cases hk:oA fd k with
 | true =>
  rw[hk,af rfl]at h;rw[af rfl];cases hl:mH (j5 fd) (k:Int) with
  | none=>rw[hl]at h;cases h
  | some v=>rw[hl]at h;cases h;rfl
 | false =>
  rw[hk,ah aI]at h;rw[ah aI];cases hl:mH (j5 fd) (k:Int) with
  | none=>rfl
  | some v=>rw[hl]at h;cases h
theorem Nm {fd:iI}{k:Nat}(h:oA fd k=true):IF (.dct (j5 fd)) (iM k)=some (iM (look fd k)):=by show(mH (j5 fd) (k:Int)).map Dt.int=_;rw[IG,af h];rfl
theorem yX (a b:Nat×Nat):dEq (jD a) (jD b)=(a==b):=by
 have:dEq (jD a) (jD b)=(((a.1:Int)==(b.1:Int))&&(((a.2:Int)==(b.2:Int))&&true)):=by simp[jD,iM,dEq,o8]
 rw[this,kN,kN,Bool.and_true];rfl
theorem DX (a b:Nat):Dh [iM a,iM b]=some (iM (min a b)):=by show some (Dt.int (if (b:Int)<(a:Int) then (b:Int) else (a:Int)))=some (.int ((min a b:Nat):Int));congr 2;split<;>lia
theorem DY (a b:Nat):Di [iM a,iM b]=some (iM (max a b)):=by show some (Dt.int (if (b:Int)>(a:Int) then (b:Int) else (a:Int)))=some (.int ((max a b:Nat):Int));congr 2;split<;>lia
theorem K2 {x:Dt}{l:iI}(e:dTs x=some l)(h:l.length<=30)(p:Nat):l8 [x,iM p]=some (.dct (j5 (bfs l p))):=by show(dTs x).bind (λ l=>(ju (iM p)).bind λ p=>if l.length<=30 then some (Dt.dct (j5 (bfs l p))) else none)=_;rw[e,jk,ae,ae,af h]
def dT (d:Dt):iA Web:=(dW d).bind λ w=>if w.2.length+1=w.1 then some w else none
theorem QE {d:Dt}{w:Web}(h:dT d=some w):dW d=some w/\w.2.length+1=w.1:=by
 obtain⟨v,e,h⟩:=iP h;by_cases hc:v.2.length+1=v.1
 ·rw[af hc]at h;cases h;exact⟨e,hc⟩
 ·rw[ah hc]at h;cases h
theorem QF {w:Web}(g:Good w)(t:w.2.length+1=w.1):dT (i8 w)=some w:=by show(dW (i8 w)).bind _=_;rw[kf g,ae,af t]
def uH:List Dt->iA Dt:=vD λ x=>(dT x).map λ _=>.non
def xx:List Dt->iA Dt
 | [x,y,z]=>(dW x).bind λ w=>(ju y).bind λ a=>(ju z).bind λ b=>if a<w.1/\b<w.1 then some (iM (ds w.2 a b)) else none
 | _=>none
def BJ:DE->iA RD:=(jL (nU (iT 1 l9 (iL (iN 0) iQ))) (jL (nU (iT 2 j6 (iL (iN 0) (iL (iN 1) iQ)))) (jL (nU (iT 2 j6 (iL (iN 0) (iL (iN 2) iQ)))) (jJ (iY IF (iT 2 l8 (iL (iY dIx (iN 0) (gC (.int 1))) (iL (iN 1) iQ))) (iN 2))))))
abbrev Nn:List Str:=["web","a","b"]
theorem K3 {x:Dt}{w:Web}(e:dT x=some w):uH [x]=some .non:=by show(dT x).map _=_;rw[e];rfl
theorem Good.key {w:Web}(g:Good w){a b:Nat}(ha:a<w.1)(hb:b<w.1):oA (bfs w.2 a) b=true:=(nK _ _).mpr ((g.inKeys ha).mpr hb)
theorem K4:Hg 3 Nn xx BJ:=by
 intro ds d hl h;match ds,h with
 | [x,y,z],h =>
  obtain⟨w,e1,h⟩:=iP (show(dW x).bind _=_ from h);obtain⟨a,e2,h⟩:=iP h;obtain⟨b,e3,h⟩:=iP h;by_cases hc:a<w.1/\b<w.1
  ·rw[af hc]at h;cases h;obtain⟨rfl,hg⟩:=kd e1;have c1:=BB e1;have c2:=ph e1 hc.1;have c3:=ph e1 hc.2;rw[jo e2,jo e3];refine⟨.rt (iM (L2.ds w.2 a b)),?_,rfl⟩;have dk:=K2 (xp w.2) (by have:=hg.len;lia) a;have gd:=Nm (hg.key hc.1 hc.2);have ix:dIx (i8 w) (.int 1)=some (kc w.2):=rfl;have gd:IF (.dct (j5 (bfs w.2 a))) (iM b)=some (iM (L2.ds w.2 a b)):=gd;generalize iM (L2.ds w.2 a b)=res at *;generalize Dt.dct (j5 (bfs w.2 a))=dd at *;generalize kc w.2=tt at *;generalize i8 w=ww at *;generalize iM a=na at *;generalize iM b=nb at *;simp[BJ,c1,c2,c3,ix,dk,gd]
  ·rw[ah hc]at h;cases h
end L2
namespace L2
open PySem PySem.Spec PyProof.Rows Zp
def wg (t:Bool)(l:Addr)(h:Heap):Heap:=(h.push (nB t l)).push {cls:=.type "enumerate",data:=.fields #[.none,.bool false,.ref h.objs.size,rawInt 0,.none,.none]}
set_option tactic.hygienic true in
theorem Np (t:Bool)(l:Addr)(xs:Array iG) :
  Meets (Builtin.«enumerate.__new__» ⟨[.type "enumerate",.ref l],[]⟩) (λ _ R s=>IsB t s.heap l xs/\R (.ok (.ret (.ref (s.heap.objs.size+1)))) {s with heap:=wg t l s.heap}) :=
 .of_wp λ prog w A R s h=>by
  obtain⟨hp,g,d,tk,os⟩:=s;obtain⟨hl,h⟩:=h;have hsub:=sub_enumerate;have hL:IsB t (Shared.heap ⟨hp,g,d,tk,os⟩) l xs:=hl;have h:R (.ok (.ret (.ref ((hp.push (nB t l)).objs.size)))) ⟨wg t l hp,g,d,tk,os⟩:=by rw[cQ];exact h
  cases t with
  | true =>
   obtain⟨ot,gt,_,nt,dt⟩:=id hl
   wp_walk using b_ gt,sk hL
   refine wpAny_stack_any λ st=>ao ?_;split
   ·rename_i c _ _ _ _ _
    cases (c==Value.type "enumerate")
    ·wp_walk using b_ gt,sk hL
     exact⟨_,rfl,h⟩
    ·wp_walk using b_ gt,sk hL
     exact⟨_,rfl,h⟩
   ·wp_walk using b_ gt,sk hL
    exact⟨_,rfl,h⟩
  | false =>
   obtain⟨ot,gt,_,nt,dt⟩:=id hl
   wp_walk using b_ gt,sk hL
   refine wpAny_stack_any λ st=>ao ?_;split
   ·rename_i c _ _ _ _ _
    cases (c==Value.type "enumerate")
    ·wp_walk using b_ gt,sk hL
     exact⟨_,rfl,h⟩
    ·wp_walk using b_ gt,sk hL
     exact⟨_,rfl,h⟩
   ·wp_walk using b_ gt,sk hL
    exact⟨_,rfl,h⟩
def Ite (t:Bool)(K:iF)(a:Addr):It :=
  ⟨λ i H=>∃ xs,SqB t K H a xs/\i<xs.length,
   λ i H v H'=>∃ p x,v=.ref p/\H p=none/\H'=upd H p (.tup [.int i,x])/\∀ xs,SqB t K H a xs->xs[i]?=some x,
   λ i H=>∃ xs,SqB t K H a xs/\i=xs.length⟩
def tne (t:Bool)(a e it:Addr)(k:Nat)(h:Heap):Prop:=(∃ old,IsEnum h e it k old)/\ItB t h it a k
theorem IH {P:Program}{w:World}{K:iF}{elts:List Expr}{kk:Nat}{ps:Pos}(t:Bool)(a e it:Addr)(ne:e≠it):Turn P w K (.Tuple elts kk ps) (Ite t K a) [e,it] e (tne t a e it) where
 mem:=by simp
 obj:=λ k h st c hc=>by
  obtain⟨⟨old,he⟩,h1⟩:=st;simp only[aN,cv,or_false]at hc;rcases hc with rfl | rfl
  ·exact⟨_,he,λ v q=>by cases q⟩
  ·exact h1.obj
 keep:=λ k h h' st kp=>by obtain⟨⟨old,he⟩,h1⟩:=st;exact⟨⟨old,kp e (by simp) _ he⟩,h1.keep λ o q=>kp it (by simp) o q⟩
 item:=by
  intro X hP hw hK hc k pins s σ H E I hf st hg;subst hP hw hK;obtain⟨xs,hq1,hk1⟩:=hg;obtain⟨⟨old,he⟩,h1⟩:=st;obtain⟨its1,rv1,p1,_⟩:=I.pM hq1;obtain⟨oi,gi,ci,ci'⟩:=ItB.cls (t:=t) (h:=s.heap) (j:=it) (a:=a) (k:=k) h1;have hl1:=rv1.length;have na:=vB I hf hq1;refine wpAny_pyNext_enum_itemD (vA (prog:=X.prog) (w:=X.w) (A:=X.A.in1) (t:=t) (show X.A.in1.handled=none from I.ok.hd hc) it a (na it (by simp)) its1.toArray) he ⟨h1,p1⟩ (by simp;lia) ne (by simp[ne,aX (na e (by simp))]) ?_;intro x h' tk px ho s1 hT hsz kp;generalize hN0:s.heap.objs.size=N at ho hT hsz ⊢;have hN:s.heap.objs.size<=N:=gG hN0;refine⟨.ref N,rfl,?_⟩;have I1:Inv X pins σ H {s with heap:=h',toks:=tk+1}:=I.rP (fp:=[e,it]) (λ c o hc' q=>kp c o (λ z=>hc' (by simp[z])) (λ z=>hc' (by simp[z])) q) hf;have hxk:xs[k]?=some (xs[k]'hk1):=by simp[hk1]
  obtain⟨u1,e1,r1⟩:=rv1.get hxk;have px':its1[k]?=some x:=by simpa using px
  rw[e1]at px';cases px';have hNn:H N=none:=I.hok.fresh hN;have I2:Inv X pins σ (upd H N (.tup [.int k,xs[k]])) {s with heap:=h',toks:=tk+1}:=I1.Gz hNn (bf I.sz hN) (cX (aJ I.lt hN)) (λ x c e q=>by
    obtain⟨v,o,ho,_⟩:=I.cell x c e;exact absurd (aE ho) (by rw[q];exact fC.mpr hN)) (λ p hp q=>absurd (aE (I.pin p hp).1) (by rw[q];exact fC.mpr hN))
   ⟨⟨by rw[sizeLine_eq];simp,_,hT,rfl⟩,[.int k tk,x],.cons ⟨_,rfl⟩ (.cons r1 .nil),⟨_,hT,rfl,0,rfl⟩⟩
  have nfp:∀ q∈[e,it],q≠N:=λ q hq z=>by
   have:q<s.heap.objs.size:=by
    simp only[aN,cv,or_false]at hq;rcases hq with rfl | rfl
    ·exact aE he
    ·exact aE gi
   rw[z]at this;exact bD _ (aJ this hN)
  have hf2:∀ q∈[e,it],vc X pins (upd H N (.tup [.int k,xs[k]])) q:=λ q hq=>⟨by rw[ja (nfp q hq)];exact(hf q hq).1,(hf q hq).2⟩;refine wpAny_letOwnedTupleGo_enum ho λ h2' he2 sb=>?_;refine⟨.ref N,_,I2.rP (t':=tk+1) (fp:=[e,it]) (λ c o hc' q=>sb.extBut _ _ (λ z=>hc' (by simp[z])) q) hf2,rfl,⟨N,_,rfl,hNn,rfl,λ zs hs=>?_⟩,⟨⟨_,by simpa using he2⟩,s1.1.keep λ o q=>sb.extBut _ _ (aX ne) q⟩,λ q hq=>(hf2 q hq).1⟩;rw[I.ym hs hq1];exact hxk
 done:=by
  intro X hP hw hK hc k pins s σ H E I hf st hg;subst hP hw hK;obtain⟨xs,hq1,hk⟩:=hg;obtain⟨⟨old,he⟩,h1⟩:=st;obtain⟨its1,rv1,p1,_⟩:=I.pM hq1;have hl1:=rv1.length;have na:=vB I hf hq1;have hk':k=its1.toArray.size:=by simp;lia
  subst hk';refine wpAny_pyNext_enum_endD (vA (prog:=X.prog) (w:=X.w) (A:=X.A.in1) (t:=t) (show X.A.in1.handled=none from I.ok.hd hc) it a (na it (by simp)) its1.toArray) he ⟨h1,p1⟩ ?_;intro h' kp;exact⟨rfl,I.rP (t':=s.toks) (fp:=[e,it]) (λ c o hc' q=>kp c o (λ z=>hc' (by simp[z])) q) hf⟩
 self:=λ _ _ _ _ _ st h=>by obtain⟨⟨old,he⟩,_⟩:=st;exact wpAny_pyIter_enum he h
section
variable {X:Cx}{a:Expr}{pos:Pos}
theorem Nq {ta:TA}{elts:List Expr}{kk:Nat}{ps p:Pos}(t:Bool)(hg:Gl X "enumerate")(hm:X.mg "enumerate"=none)(ha:PA X [a] ta)(hs:starEach [a] X.env=[(false,eval a X.env)]:=by rfl)(hv:bootBuiltins "enumerate"=some (.type "enumerate"):=by rfl) :
  PI X (.Tuple elts kk ps) (.Call (.Name "enumerate" p) [a] [] pos) (λ σ H R=>ta σ H λ vs H1=>∃ x,vs=[.ref x]/\(∃ xs,SqB t X.K H1 x xs)/\R (Ite t X.K x) H1):=by
 intro pins s σ H R I h;refine Call_ (sH I hg hm hv (cU (thn (ha pos pins s σ H _ I h) λ us s1 ⟨vs,H1,I1,r1,q1⟩=>?_) hs rfl));obtain⟨x,rfl,⟨xs,hx⟩,q⟩:=q1;obtain⟨u,rfl,ru⟩:=vals1 r1;cases ru;obtain⟨its1,_,p1,_⟩:=I1.pM hx;refine callType_new F.called_enumerate (by decide) (F.typeCall_enumerate_1 _) (F.newCall_enumerate_1 _) (λ obj=>F.args_object_init_2 obj _) F.entry_enumerate_new (Np t x its1.toArray) ⟨p1,?_⟩;have old:∀ b o,s1.heap.get? b=some o->(wg t x s1.heap).get? b=some o:=λ b o e=>ai _ (ai _ e);have fr:(nB t x).isFreed=false:=by cases t<;>rfl
 have g1:(wg t x s1.heap).get? s1.heap.objs.size=some (nB t x):=ai _ (aS _ fr);have g2:IsEnum (wg t x s1.heap) (s1.heap.objs.size+1) s1.heap.objs.size ((0:Nat):Int) .none:=by have:(wg t x s1.heap).get? (s1.heap.push (nB t x)).objs.size=some {cls:=.type "enumerate",data:=.fields #[.none,.bool false,.ref s1.heap.objs.size,rawInt 0,.none,.none]}:=aS _ rfl;rw[cQ]at this;exact this
 show _/\_;refine⟨⟨_,g2,rfl⟩,wpAny_pyIter_enum (s:={s1 with heap:=wg t x s1.heap}) g2 ?_⟩;have I2:Inv X pins σ H1 {s1 with heap:=wg t x s1.heap}:=I1.kept (t':=s1.toks) old;refine⟨_,[s1.heap.objs.size+1,s1.heap.objs.size],_,_,H1,rfl,I2,IH t x (s1.heap.objs.size+1) s1.heap.objs.size (nn (by lia)),⟨⟨_,g2⟩,?_⟩,λ c hc=>?_,q⟩
 ·cases t with
  | true=>exact⟨_,g1,rfl,rfl⟩
  | false=>exact⟨_,g1,rfl,rfl⟩
 have hc:s1.heap.objs.size<=c:=by
  simp only[aN,cv,or_false]at hc;rcases hc with rfl | rfl
  ·exact eS _ _
  ·exact ak _
 exact I1.Jq hc (I1.hok.fresh hc)
def K5 (t:Bool):List Dt->iA (List Dt)
 | [x]=>(itB t x).map λ xs=>xs.zipIdx.map λ p=>.tup [.int p.2,p.1]
 | _=>none
def yY (t:Bool)(gs:DE->iA (List Dt)):DE->iA (List Dt):=λ δ=>(gs δ).bind (K5 t)
theorem Nr {gs:DE->iA (List Dt)}{elts:List Expr}{kk:Nat}{ps p:Pos}(t:Bool)(hm:X.mg "enumerate"=none)(ha:PDs X [a] gs)(hg:Gl X "enumerate":=by rfl)(hs:starEach [a] X.env=[(false,eval a X.env)]:=by rfl)
  (hv:bootBuiltins "enumerate"=some (.type "enumerate"):=by rfl):PI X (.Tuple elts kk ps) (.Call (.Name "enumerate" p) [a] [] pos) (iD X.K (yY t gs)) :=
 (Nq t hg hm ha hs hv).of λ σ H R hz7=>by
  obtain⟨δ,ds,S,q,k⟩:=hz7;obtain⟨x,e1,e2⟩:=iP q;match x,e2 with
  | [x],e2 =>
   obtain⟨xs,f1,e2⟩:=jr (show(itB t x).map _=_ from e2);subst e2;refine⟨δ,_,S,e1,λ vs H1 s1 i1=>?_⟩;cases i1 with
   | cons i1 i3 =>
    cases i3;obtain⟨c,vs1,rfl,q1,is1⟩:=Bp f1 i1;refine⟨c,rfl,⟨_,q1⟩,k _ H1 s1 λ H2 s2=>⟨λ i dd hd=>?_,⟨vs1,s2.pM q1,?_⟩⟩⟩
    ·rw[ax,List.getElem?_zipIdx]at hd
     cases hz:xs[i]? with
     | none=>rw[hz]at hd;cases hd
     | some pr =>
      rw[hz]at hd;cases hd;obtain⟨v1,g1,j1⟩:=is1.get hz;refine⟨⟨vs1,s2.pM q1,(ba.mp g1).1⟩,?_⟩;rintro v H3 ⟨p,a1,rfl,hp,rfl,r1⟩;have w1:=r1 vs1 (s2.pM q1);rw[g1]at w1;cases w1;refine⟨iZ.upd hp,.tup (SqT.of iU) (.cons ?_ (.cons ((j1.ext s2).ext (iZ.upd hp)) .nil))⟩;have:((0+i:Nat):Int)=(i:Int):=by lia
      rw[this];exact .int _
    ·have l1:=is1.length;simp only[ag,List.length_zipIdx];lia
end
end L2
namespace L2
open PySem PySem.Spec PyProof.Rows
section
variable {prog:Program}{w:World}{A:Around}{R:Result->iH->Prop}{s:iH}{elt t1 i1 t2 i2:Expr}{f1 f2:List Expr}{scope:Scope}{pos:Pos}{it acc:iG}{env:Env}
end
section
variable {X:Cx}{pins:iJ}{σ:St}{H:Hp}{s:iH}{tg iter elt t1 i1:Expr}{ifs f1:List Expr}{scope:Scope}{pos:Pos}{g:TG}{tc:TT}{te:TE}
end
section
variable {X:Cx}{pins:iJ}{σ:St}{H:Hp}{s:iH}{own fr:List Str}{ix:List Nat}{scope:Scope}{tg iter elt tg2 iter2:Expr}{ifs ifs2:List Expr}{pos:Pos}{g g2:TG}{tc tc2:TT}{te:TE}{wi2:TI}
end
open Zp
def yZ (gg:Dt->DE->iA DE)(gt:DE->iA Bool)(gi2:DE->iA (List Dt))(gg2:Dt->DE->iA DE)(gt2:DE->iA Bool)(ge:DE->iA Dt)(δc:DE):List Dt->iA (List Dt)
 | []=>some []
 | d::r=>(gg d δc).bind λ δ'=>(gt δ').bind λ b=>if b=true then (gi2 δ').bind λ es=>(zX gg2 gt2 ge δ' es).bind λ zs=>(yZ gg gt gi2 gg2 gt2 ge δc r).map (zs++·) else yZ gg gt gi2 gg2 gt2 ge δc r
def SO (own:List Str)(ix:List Nat)(gi:DE->iA (List Dt))(gg:Dt->DE->iA DE)(gt:DE->iA Bool)(gi2:DE->iA (List Dt))(gg2:Dt->DE->iA DE)(gt2:DE->iA Bool)(ge:DE->iA Dt):DE->iA Dt :=
 λ δ=>(gi δ).bind λ ds=>(yZ gg gt gi2 gg2 gt2 ge (sr own ix δ) ds).bind λ l=>if l.length<=1000 then some (.lst l) else none
section
variable {X:Cx}{pos:Pos}{tg iter elt tg2 iter2:Expr}{ifs ifs2:List Expr}{own fr:List Str}{ix:List Nat}{scope:Scope}{g g2:TG}{gg gg2:Dt->DE->iA DE}{gi gi2:DE->iA (List Dt)}{gt gt2:DE->iA Bool}{ge:DE->iA Dt}
end
open PySem.W PySem.SeqAt
def SQ (i j k:Nat):Dt->DE->iA DE:=λ d δ=>match d with
 | .tup [x,y,z]=>some (((δ.set i (some x)).set j (some y)).set k (some z))
 | _=>none
section
variable {X:Cx}{pins:iJ}{σ:St}{H:Hp}{s:iH}
def lsT (b:List Int):List (List Int)->List Int
 | []=>b
 | x::r=>lsT (if HT.lexLt x b=true then x else b) r
section
variable {prog:Program}{w:World}{A:Around}{R:Result->iH->Prop}
end
end
section
variable {prog:Program}{w:World}{A:Around}{E:ir}{s:iH}
end
def y_:List Dt->iA (List (List Int))
 | []=>some []
 | d::r=>((xJ d).bind kU).bind λ x=>(y_ r).map (x::·)
theorem Fy (l:List (List Int)):y_ (l.map λ x=>.tup (x.map .int))=some l:=by
 induction l with
 | nil=>rfl
 | cons x r ih =>
  show((xJ (.tup (x.map .int))).bind kU).bind (λ y=>(y_ (r.map λ x=>.tup (x.map .int))).map (y::·))=_;rw[ih];have:kU (x.map .int)=some x:=by
   induction x with
   | nil=>rfl
   | cons y t it =>show(kU (t.map .int)).map (y::·)=_;rw[it];rfl
  show((kU (x.map .int)).bind λ y=>_)=_;rw[this];rfl
def SR:List (List Int)->iA (List Int)
 | []=>none
 | x::r=>some (lsT x r)
def K6:List Dt->iA Dt:=vD λ x=>(Kw x).bind λ ds=>(y_ ds).bind λ l=>(SR l).map λ x=>.tup (x.map .int)
section
variable {X:Cx}{pins:iJ}{σ:St}{H:Hp}{s:iH}
end
end L2
namespace L2
open PySem PySem.Spec PyProof.Rows Zp
section
variable {X:Cx}{a b e:Expr}{es:List Expr}{pos:Pos}
def Vr:Dt->iA Str
 | .str z=>some z
 | _=>none
end
section
variable {X:Cx}{a b e o:Expr}{es:List Expr}{pos:Pos}
end
section
variable {X:Cx}{tg a b c:Expr}{pos:Pos}
end
section
variable {X:Cx}{a b e o:Expr}{es:List Expr}{pos:Pos}
def K7:List Dt->iA (List Str)
 | []=>some []
 | d::ds=>(Vr d).bind λ z=>(K7 ds).map (z::·)
@[simp] theorem RE (l:List Str):K7 (l.map .str)=some l:=by
 induction l with
 | nil=>rfl
 | cons i r ih=>show(some i).bind (λ i=>(K7 (r.map .str)).map (i::·))=_;rw[ih];rfl
def xA:List Dt->iA Dt:=vD λ x=>(Ff x).map .lst
theorem K8:kz X (.type "list") (cD X.K xA):=yp A_ λ xs H Q ds d is e q=>by
 obtain⟨x,rfl,e1⟩:=mw e;obtain⟨l,e0,rfl⟩:=jr e1;obtain⟨v,rfl,i⟩:=is.one;rcases ui e0 with rfl | rfl
 ·obtain⟨a,ys,rfl,ha,js⟩:=i.jy;exact⟨a,ys,rfl,.inr ha,λ p hp=>q _ _ (iZ.upd hp) (.lst iU (js.ext (iZ.upd hp)))⟩
 ·obtain⟨a,ys,rfl,ha,js⟩:=i.lst_inv;exact⟨a,ys,rfl,.inl (SqL.of ha),λ p hp=>q _ _ (iZ.upd hp) (.lst iU (js.ext (iZ.upd hp)))⟩
end
section
variable {X:Cx}{pos:Pos}
def QG (i j k:Nat)(g:DE->iA (List Dt)):DE->iA RD:=λ δ=>(g δ).bind λ ds=>match ds with
 | [x,y,z]=>some (.nx (((δ.set i (some x)).set j (some y)).set k (some z)))
 | _=>none
end
@[simp] theorem Uw (i j k:Nat) (gs:DE->iA (List Dt)) (δ:DE):QG i j k gs δ=(gs δ).bind λ ds=>match ds with | [x,y,z]=>some (.nx (((δ.set i (some x)).set j (some y)).set k (some z))) | _=>none:=rfl
open Qs
section
variable {K:iF}{w:Web}(g:Good w)
include g
omit g in
theorem Fz (p q:Nat->Bool)(hpq:∀ y,p y=true->q y=true){x:Nat}(qx:q x=true)(px:p x=false):∀ (l:List Nat),x∈l->l.countP p+1<=l.countP q:=by
 intro l;induction l with
 | nil=>intro h;cases h
 | cons y r ih =>
  intro h;have mono:r.countP p<=r.countP q:=List.countP_mono_left λ z _ hz=>hpq z hz;rw[dE,dE];rcases aN.mp h with rfl | h
  ·rw[qx,px];simp;lia
  ·have:=ih h
   cases hy:p y with
   | true=>rw[hpq y hy];simp;lia
   | false=>simp;lia
theorem Good.K9 {b:Nat}(hb:b<w.1):∀ v,v<w.1->ds w.2 b v<=(List.range w.1).countP λ u=>decide (ds w.2 b u<ds w.2 b v):=by refine g.KS hb (by rw[jQ];exact bg _) λ v hv ne ih=>?_;obtain⟨n1,n2,_⟩:=g.sA hb hv ne;have:=Fz (λ u=>decide (ds w.2 b u<ds w.2 b (nx w.2 b v))) (λ u=>decide (ds w.2 b u<ds w.2 b v)) (λ y hy=>by simp at hy ⊢;lia) (x:=nx w.2 b v) (by simp;lia) (by simp) (List.range w.1) (aw.mpr (g.OI hb hv ne));lia
theorem Good.OO {b:Nat}(hb:b<w.1)(v:Nat)(hv:v<w.1):ds w.2 b v<=w.1:=by have h:=g.K9 hb v hv;have:=List.countP_le_length (p:=λ u=>decide (ds w.2 b u<ds w.2 b v)) (l:=List.range w.1);rw[bJ]at this;lia
end
section
variable {K:iF}{w:Web}(g:Good w)
include g
end
theorem QH {a:Int}(h:a.natAbs<1000000):bd a:=aJ h (bf (show 1000000<=2 ^ 20 by decide) (bN (by decide) (by decide)))
def lP:List Dt->iA Dt:=yu λ x y=>(dT x).bind λ w=>(ju y).bind λ b=>if b<w.1 then some (.tup (((List.range w.1).map λ a=>mn w.2 b a).map .int)) else none
theorem SS {w:Web}(hg:Good w)(tr:w.2.length+1=w.1){b:Nat}(hb:b<w.1):lP [i8 w,iM b]=some (.tup (((List.range w.1).map λ a=>mn w.2 b a).map .int)):=by show(dT (i8 w)).bind (λ w=>(ju (iM b)).bind λ b=>if b<w.1 then some (Dt.tup (((List.range w.1).map λ a=>mn w.2 b a).map .int)) else none)=_;rw[QF hg tr,jk,ae,ae,af hb]
theorem DZ {α:Type}{enc:α->Dt}{gg gg2:Dt->DE->iA DE}{gi2:DE->iA (List Dt)}{gt2:DE->iA Bool}{ge:DE->iA Dt}{δc:DE}{δa:α->DE}{es zs:α->List Dt}:∀ (l:List α),(∀ a∈l,gg (enc a) δc=some (δa a)/\gi2 (δa a)=some (es a)/\zX gg2 gt2 ge (δa a) (es a)=some (zs a)) ->
  yZ gg kA gi2 gg2 gt2 ge δc (l.map enc)=some (l.flatMap zs)
 | [],_=>rfl
 | a::r,h=>by obtain⟨h1,h2,h3⟩:=h a ar;have ih:=DZ r λ b hb=>h b (av _ hb);rw[aq,yZ,h1,ae,Qo,ae,af rfl,h2,ae,h3,ae,ih];rfl
theorem BK {α:Type}(F:Nat->α)(n:Nat):((List.range n).map F).zipIdx=(List.range n).map λ a=>(F a,a):=by
 apply fM;intro i;rw[List.getElem?_zipIdx,ax,ax];by_cases h:i<n
 ·rw[a_ h];simp
 ·rw[bq (by simpa using h)];rfl
theorem za (t:Bool){x:Dt}(F:Nat->Dt)(n:Nat)(h:itB t x=some ((List.range n).map F)):K5 t [x]=some ((List.range n).map λ a=>.tup [iM a,F a]):=by show(itB t x).map _=_;rw[h,bP,BK,aH];rfl
def grL (w:Web):List (List Int):=(List.range w.1).flatMap λ b=>(List.range w.1).map λ a=>[-(mn w.2 b a),(a:Int),(b:Int)]
def z8 (x:List Int):Dt:=.tup (x.map .int)
def Vs:List Int->iA Dt
 | [n,a,b]=>some (.tup [.int (-n),.int a,.int b])
 | _=>none
def FA:List Dt->iA Dt:=vD λ x=>(dT x).bind λ w=>(SR (grL w)).bind Vs
def zb:DE->iA RD:=(jL (nU (iT 1 uH (iL (iN 0) iQ))) (jL (kZ 1 (SO ["b","a","number"] [0] (qL (iL (iY dIx (iN 0) (gC (.int 0))) iQ)) (ggN 0) kA (yY true (iL (iT 2 lP (iL (iN 3) (iL (iN 0) iQ))) iQ)) (kY 1 2) kA (kL (iL (gUn oq (iN 2)) (iL (iN 1) (iL (iN 0) iQ)))))) (jL (ue (SQ 2 3 4) (jF K6 (iL (iN 1) iQ))) (jJ (kL (iL (gUn oq (iN 2)) (iL (iN 3) (iL (iN 4) iQ))))))))
abbrev FC:List Str:=["tree","found","number","a","b"]
theorem Nt (w:Web)(h:w.1<=8):(grL w).length<=1000:=by
 have:(grL w).length=w.1*w.1:=by
  unfold grL;rw[List.length_flatMap];have:∀ l:List Nat,(l.map λ b=>((List.range w.1).map λ a=>[-(mn w.2 b a),(a:Int),(b:Int)]).length).sum=l.length*w.1:=λ l=>by
   induction l with
   | nil=>simp
   | cons x r ih=>rw[aq,aP,ih,ag,bJ,aQ,g9];lia
  rw[this,bJ]
 rw[this];exact bf (cE h h) (by decide)
theorem K_ {α β γ:Type}(f:α->List β)(g:β->γ)(l:List α):l.flatMap (λ a=>(f a).map g)=(l.flatMap f).map g:=by rw[List.map_flatMap]
@[simp] theorem V7 {δ:DE} (own:List PySem.Str) (ix:List Nat) (gi gi2:DE->iA (List Dt)) (gg gg2:Dt->DE->iA DE) (t t2:DE->iA Bool) (g:DE->iA Dt):SO own ix gi gg t gi2 gg2 t2 g δ=(gi δ).bind λ ds=>(yZ gg t gi2 gg2 t2 g (sr own ix δ) ds).bind λ l=>if l.length<=1000 then some (.lst l) else none:=rfl
@[simp] theorem Vt {δ:DE} (t:Bool) (gs:DE->iA (List Dt)):yY t gs δ=(gs δ).bind (K5 t):=rfl
@[simp] theorem Vu {δ:DE} (i j k:Nat) (x y z:Dt):SQ i j k (.tup [x,y,z]) δ=some (((δ.set i (some x)).set j (some y)).set k (some z)):=rfl
theorem OP:Hg 1 FC FA zb:=by
 intro ds d hl h;obtain⟨x,rfl,h⟩:=mw h;obtain⟨w,e1,h⟩:=iP h;obtain⟨t,e2,h3⟩:=iP h;obtain⟨e4,ht⟩:=QE e1;obtain⟨rfl,hg⟩:=kd e4;have c1:=K3 e1;have h8:=hg.km;have hr:=nW (n:=w.1) (by lia);have hr:yo [iM w.1]=some ((List.range w.1).map iM):=hr;have ix:dIx (i8 w) (.int 0)=some (iM w.1):=rfl;have lc:=DZ (enc:=iM) (gg:=ggN 0) (gi2:=yY true (iL (iT 2 lP (iL (iN 3) (iL (iN 0) iQ))) iQ)) (gg2:=kY 1 2) (gt2:=kA) (ge:=kL (iL (gUn oq (iN 2)) (iL (iN 1) (iL (iN 0) iQ)))) (δc:=[none,none,none,some (i8 w)])
  (δa:=λ b=>[some (iM b),none,none,some (i8 w)]) (es:=λ b=>(List.range w.1).map λ a=>Dt.tup [iM a,.int (mn w.2 b a)]) (zs:=λ b=>((List.range w.1).map λ a=>[-(mn w.2 b a),(a:Int),(b:Int)]).map z8) (List.range w.1) λ b hb=>⟨rfl,by
   have hb:b<w.1:=aw.mp hb;have cm:=SS hg ht hb;have en:=za true (x:=.tup (((List.range w.1).map λ a=>mn w.2 b a).map .int)) (λ a=>.int (mn w.2 b a)) w.1 (by show some _=some _;rw[aH];rfl);generalize ((List.range w.1).map λ a=>mn w.2 b a).map Dt.int=ps at cm en;generalize i8 w=ww at *;generalize iM b=nb at *;simp[cm,en],by
   have lm:=jZ (enc:=λ a=>Dt.tup [iM a,.int (mn w.2 b a)]) (gg:=kY 1 2) (ge:=kL (iL (gUn oq (iN 2)) (iL (iN 1) (iL (iN 0) iQ)))) (δc:=[some (iM b),none,none,some (i8 w)]) (δa:=λ a=>[some (iM b),some (iM a),some (.int (mn w.2 b a)),some (i8 w)]) (enc':=λ a=>z8 [-(mn w.2 b a),(a:Int),(b:Int)]) (List.range w.1) λ a _=>⟨rfl,by simp[gUn,oq,z8,iM]⟩;rw[lm,aH];rfl⟩
 rw[K_]at lc;have lc:yZ (ggN 0) kA (yY true (iL (iT 2 lP (iL (iN 3) (iL (iN 0) iQ))) iQ)) (kY 1 2) kA (kL (iL (gUn oq (iN 2)) (iL (iN 1) (iL (iN 0) iQ)))) [none,none,none,some (i8 w)] ((List.range w.1).map iM)=some ((grL w).map z8):=lc;have hn:((grL w).map z8).length<=1000:=by rw[ag];exact Nt w h8
 have mt:K6 [.lst ((grL w).map z8)]=some (.tup (t.map .int)):=by show(y_ ((grL w).map z8)).bind _=_;rw[show(grL w).map z8=(grL w).map λ x=>.tup (x.map .int) from rfl,Fy,ae,e2];rfl
 match t,h3 with
 | [n,a,b],h3 =>cases h3;refine⟨.rt (.tup [.int (-n),.int a,.int b]),?_,rfl⟩;have mt:K6 [.lst ((grL w).map z8)]=some (.tup [.int n,.int a,.int b]):=mt;generalize (grL w).map z8=gl at lc hn mt;generalize (List.range w.1).map iM=rs at lc hr;generalize i8 w=ww at *;simp only[iM]at ix hr;simp[zb,c1,ix,iM,hr,lc,hn,mt,gUn,oq]
def ma:List Dt->iA Dt:=yu λ x y=>(dW x).bind λ w=>(ju y).map λ p=>.lst (((List.range w.1).filter λ o=>decide (j_ p o∈w.2)).map iM)
def qT:DE->iA RD:=(jJ (gLC ["_law_other"] [0,1] (qL (iL (iY dIx (iN 0) (gC (.int 0))) iQ)) (ggN 0) (gB (iY (dIn false) (kL (iL (jF Dh (iL (iN 2) (iL (iN 0) iQ))) (iL (jF Di (iL (iN 2) (iL (iN 0) iQ))) iQ))) (iY dIx (iN 1) (gC (.int 1))))) (iN 0)))
abbrev D0:List Str:=["_law_web_here","_law_place"]
theorem QI (t:Nat×Nat)(l:iI):uD (jD t) (l.map jD)=decide (t∈l):=by unfold uD;rw[bH,List.any_map];simp only[eM,yX,fZ,beq_iff_eq,decide_eq_true_eq];exact⟨λ⟨x,hx,e⟩=>by rw[<-e];exact hx,λ h=>⟨t,h,rfl⟩⟩
theorem SU (neg:Bool)(t:Nat×Nat)(l:iI):dIn neg (jD t) (kc l)=some (.bl (if neg then !decide (t∈l) else decide (t∈l))):=by show(if ((l.map jD).all λ e=>sh2 e (jD t))=true then some (Dt.bl (if neg then !uD (jD t) (l.map jD) else uD (jD t) (l.map jD))) else none)=_;rw[af (by rw[gH,dz];intro x _;rfl),QI]
theorem BL:Hg 2 D0 ma qT:=by
 intro ds d hl h;obtain⟨x,y,rfl,h⟩:=pd h;obtain⟨w,e4,h⟩:=iP h;obtain⟨p,e2,h⟩:=jr h;subst h;obtain⟨rfl,hg⟩:=kd e4;rw[jo e2];have h8:=hg.km;have hr:yo [iM w.1]=some ((List.range w.1).map iM):=nW (n:=w.1) (by lia);have ix:dIx (i8 w) (.int 0)=some (iM w.1):=rfl;have ix1:dIx (i8 w) (.int 1)=some (kc w.2):=rfl;refine⟨.rt (.lst (((List.range w.1).filter λ o=>decide (j_ p o∈w.2)).map iM)),?_,rfl⟩;have lc:=kl (enc:=iM) (gg:=ggN 0) (gt:=gB (iY (dIn false) (kL (iL (jF Dh (iL (iN 2) (iL (iN 0) iQ))) (iL (jF Di (iL (iN 2) (iL (iN 0) iQ))) iQ))) (iY dIx (iN 1) (gC (.int 1))))) (ge:=iN 0) (δc:=[none,some (i8 w),some (iM p)]) (δa:=λ o=>[some (iM o),some (i8 w),some (iM p)]) (p:=λ o=>decide (j_ p o∈w.2)) (enc':=iM) (List.range w.1) λ o ho=>⟨rfl,by have mn:=DX p o;have mx:=DY p o;have inn:=SU false (j_ p o) w.2;have e:Dt.tup [iM (min p o),iM (max p o)]=jD (j_ p o):=rfl;generalize kc w.2=tt at *;generalize i8 w=ww at *;generalize iM p=np at *;generalize iM o=no at *;generalize iM (min p o)=n1 at *;generalize iM (max p o)=n2 at *;generalize jD (j_ p o)=ep at *;simp[mn,mx,ix1,e,inn],λ _=>rfl⟩
 have hn:((List.range w.1).map iM).length<=1000:=by simp;lia
 generalize ((List.range w.1).filter λ o=>decide (j_ p o∈w.2)).map iM=res at *;generalize (List.range w.1).map iM=rs at *;generalize i8 w=ww at *;simp only[iM]at ix hr lc;simp[qT,iM,ix,hr,lc,hn]
end L2
namespace L2
open PySem PySem.W PySem.Spec PyProof.Rows Zp PySem.SeqAt Tb
section
variable {X:Cx}{pins:iJ}{σ:St}{H:Hp}{s:iH}{tg e:Expr}
end
end L2
namespace L2
open PySem PySem.Spec PyProof.Rows Zp Qs
def mpD (F:Nat->Int)(ks:List Nat):List (Int×Int):=ks.map λ(j:Nat)=>((j:Int),F j)
def ksI (l:iI)(b i:Nat):List Nat:=b::((keys (bfs l b)).take i).filter λ k=>decide (k≠b)
section
variable {w:Web}(g:Good w)
include g
end
abbrev cV (k:Nat):V:=.int k
theorem stE {K:iF}{H:Hp}:Sat K H [] []:=⟨rfl,λ _ _ h=>by cases h⟩
theorem stN {K:iF}{H:Hp}{x:iA V}{σ:L2.St}{δ:DE}(h:Sat K H σ δ):Sat K H (x::σ) (none::δ):=⟨cK (·+1) h.len,λ j d hj=>by
 cases j with
 | zero=>cases hj
 | succ j=>exact h.at_ j d hj⟩
theorem stS {K:iF}{H:Hp}{v:V}{d:Dt}{σ:L2.St}{δ:DE}(i:Is K H v d)(h:Sat K H σ δ):Sat K H (some v::σ) (some d::δ):=⟨cK (·+1) h.len,λ j d hj=>by
 cases j with
 | zero=>cases hj;exact⟨_,rfl,i⟩
 | succ j=>exact h.at_ j d hj⟩
section
variable {K:iF}{w:Web}(g:Good w)
include g
structure KI (K:iF)(w:Web)(vt v3:V)(b:Nat)(f p:Addr)(o:Obj)(Hg H:Hp)(i:Nat):Prop where
 but:∀ c u,Hg c=some u->c≠p->H c=some u
 hf:H f=some (.frz o (.dK (kvD (j5 (bfs w.2 b)))))
 hp:H p=some (.dK (kvD (mpD (mn w.2 b) (ksI w.2 b i))))
 i0:Is K H vt (i8 w)
 i3:Is K H v3 (kc w.2)
omit g in
theorem Vv {σ:L2.St}(h:σ.length=8):∃ x0 x1 x2 x3 x4 x5 x6 x7:iA V,σ=[x0,x1,x2,x3,x4,x5,x6,x7]:=by
 match σ,h with
 | [x0,x1,x2,x3,x4,x5,x6,x7],_=>exact⟨_,_,_,_,_,_,_,_,rfl⟩
end
def gvD (kvs:List (Int×Int))(i:Nat):iA Int:=mH kvs (i:Int)
def adD (as:List Int)(i:Nat):Int:=as.getD i 0
def jN (a:Nat->Nat->Int)(n i:Nat):Dt:=.lst ((List.range (n+1)).map λ j=>.int (a i j))
def pS:List Dt->iA Dt
 | [x,y,.dct kvs,.lst es]=>(dW x).bind λ w=>(ju y).bind λ p=>(kU es).bind λ as=>if p<w.1/\as.length=w.1 then some (jN (eqA w (gvD kvs) (adD as)) w.1 p) else none
 | _=>none
def u1:DE->iA RD:=ue (kY 4 5) (iN 0)
def uN:DE->iA Dt:=iT 2 l7 (iL (iN 5) (iL (iN 1) iQ))
def uM:DE->iA Dt:=gUn oq (gC (.int 1))
def uL:DE->iA Dt:=jF om (iL (iN 7) iQ)
def uG:DE->iA RD:=jJ (iY De (iN 6) (C7 (iL (iY IF (iN 2) (iN 1)) iQ)))
def uA:DE->iA RD:=jJ (iY De (iN 6) (C7 (iL (iY dIx (iN 3) (iN 1)) iQ)))
def eB (K:iF):TS:=kP (tD K uM) (A4 (jj 6) (jj 8) tQ)
def eF (K:iF):TS:=wX (iDT K (gI ud (iN 7))) (jt 8) (eB K)
def eI (K:iF):TS:=HR (tB (RY (jj 1) (jj 2))) (jO (kP (tC (V.int 1)) (A4 (jj 6) (jj 1) tQ)) (tDS K uG)) Ai
def eR (K:iF):TS:=jO (kP (tD K uN) (jt 7)) (jO (eF K) (jO (kP (tD K uL) (A4 (jj 6) (jj 1) tQ)) (tDS K uA)))
def SV (K:iF):TS:=jO (tDS K u1) (jO (kP (tOp Mp (xQ (i_ (tC (V.int 0)) jG)) (jj 4)) (jt 6)) (jO (eI K) (eR K)))
abbrev sgE (v0:V)(pl:Nat)(v2 v3:V)(n:Nat)(v5:V)(p:Addr)(nr ot:iA V):L2.St:=[some v0,some (cV pl),some v2,some v3,some (cV n),some v5,some (.ref p),nr,ot]
abbrev rwV (n:Nat)(f:Nat->Int):List V:=(List.range n).map λ j=>V.int (f j)
theorem Nu (n:Nat)(f:Nat->Int)(j:Nat)(x:Int):(rwV n f).set j (V.int x)=rwV n (λ i=>if i=j then x else f i):=by
 apply fM;intro i;rw[List.getElem?_set];simp only[rwV,ax,ag,bJ];by_cases c:j=i
 ·subst c
  by_cases l:j<n
  ·rw[af rfl,af l,a_ l];simp
  ·rw[af rfl,ah l,bq (by simp;lia)];rfl
 ·rw[ah c]
  by_cases l:i<n
  ·rw[a_ l];simp[aX c]
  ·rw[bq (by simp;lia)];rfl
theorem oD {n j:Nat}(h:j<n):ixN n (j:Int)=some j:=by unfold ixN;rw[af (by lia),af (by lia)];simp
structure EH (K:iF)(w:Web)(kvs:List (Int×Int))(as:List Int)(v0 v2 v3 v5:V)(H0:Hp)(p:Addr)(f:Nat->Int)(H:Hp):Prop where
 same:iZ H0 H
 np:H0 p=none
 hp:H p=some (.lst (rwV w.1 f))
 i0:Is K H0 v0 (i8 w)
 i2:Is K H0 v2 (.dct kvs)
 i3:Is K H0 v3 (.lst (as.map .int))
 i5:Is K H0 v5 (kc w.2)
section
variable {K:iF}{w:Web}{kvs:List (Int×Int)}{as:List Int}{v0 v2 v3 v5:V}{H0 H:Hp}{p:Addr}{f:Nat->Int}{pl:Nat}{D:Ends}
theorem EH.ext {H':Hp}(x:EH K w kvs as v0 v2 v3 v5 H0 p f H)(s:iZ H H'):EH K w kvs as v0 v2 v3 v5 H0 p f H':=⟨x.same.trans s,x.np,s _ _ x.hp,x.i0,x.i2,x.i3,x.i5⟩
theorem EH.put (x:EH K w kvs as v0 v2 v3 v5 H0 p f H)(j:Nat)(z:Int):EH K w kvs as v0 v2 v3 v5 H0 p (λ i=>if i=j then z else f i) (upd H p (.lst ((rwV w.1 f).set j (.int z)))) :=
 ⟨λ c u h=>by rw[ja (jn h x.np)];exact x.same c u h,x.np,by rw[iU,Nu],x.i0,x.i2,x.i3,x.i5⟩
theorem EH.text (x:EH K w kvs as v0 v2 v3 v5 H0 p f H){u:HO}:jY H (upd H p u):=jY.upd (by rw[x.hp];trivial)
theorem EH.OQ (x:EH K w kvs as v0 v2 v3 v5 H0 p f H):Is K H (.ref p) (.lst ((List.range w.1).map λ j=>.int (f j))):=by refine .lst x.hp ?_;have:=Iss.rO (K:=K) (H:=H) ((List.range w.1).map f);rw[aH,aH]at this;exact this
theorem EH.sat (x:EH K w kvs as v0 v2 v3 v5 H0 p f H)(nr ot:iA V):Sat K H (sgE v0 pl v2 v3 w.1 v5 p nr ot) [some (i8 w),some (iM pl),some (.dct kvs),some (.lst (as.map .int)),some (iM w.1),some (kc w.2),some (.lst ((List.range w.1).map λ j=>.int (f j))),none,none] :=
 stS (x.i0.ext x.same) (stS (.int _) (stS (x.i2.ext x.same) (stS (x.i3.ext x.same) (stS (.int _) (stS (x.i5.ext x.same) (stS x.OQ (stN (stN stE))))))))
theorem EH.SW {nr:V}{d7:Dt}(x:EH K w kvs as v0 v2 v3 v5 H0 p f H)(i7:Is K H nr d7)(ot:iA V):Sat K H (sgE v0 pl v2 v3 w.1 v5 p (some nr) ot) [some (i8 w),some (iM pl),some (.dct kvs),some (.lst (as.map .int)),some (iM w.1),some (kc w.2),some (.lst ((List.range w.1).map λ j=>.int (f j))),some d7,none] :=
 stS (x.i0.ext x.same) (stS (.int _) (stS (x.i2.ext x.same) (stS (x.i3.ext x.same) (stS (.int _) (stS (x.i5.ext x.same) (stS x.OQ (stS i7 (stN stE))))))))
theorem G9 (n:Nat)(f:Nat->Int)(z:Int):((List.range n).map λ j=>Dt.int (f j))++[.int z]=(List.range (n+1)).map λ j=>.int (if j=n then z else f j):=by
 rw[fb,a7];congr 1
 ·exact aK λ j hj=>by rw[ah (by have:=aw.mp hj;lia)]
 ·simp
theorem SX (x0 x3 x4 x5 x7 x8:iA Dt){v:Int}(h:mH kvs (pl:Int)=some v)(h8:w.1<=8):uG [x0,some (iM pl),some (.dct kvs),x3,x4,x5,some (.lst ((List.range w.1).map λ j=>.int (f j))),x7,x8]=some (.rt (.lst ((List.range (w.1+1)).map λ j=>.int (if j=w.1 then v else f j)))):=by
 have e1:IF (.dct kvs) (iM pl)=some (.int v):=by show(mH kvs (pl:Int)).map Dt.int=_;rw[h];rfl
 have e2:De (.lst ((List.range w.1).map λ j=>.int (f j))) (.lst [.int v])=some (.lst ((List.range (w.1+1)).map λ j=>.int (if j=w.1 then v else f j))):=by show(if ((List.range w.1).map λ j=>Dt.int (f j)).length+[Dt.int v].length<=1000 then some (Dt.lst (((List.range w.1).map λ j=>Dt.int (f j))++[.int v])) else none)=_;rw[af (by simp;lia),G9]
 generalize (List.range (w.1+1)).map (λ j=>Dt.int (if j=w.1 then v else f j))=r at *;generalize (List.range w.1).map (λ j=>Dt.int (f j))=q at *;generalize iM pl=np at *;simp[uG,e1,e2]
theorem SY (x0 x2 x4 x5 x7 x8:iA Dt)(hl:pl<as.length)(h8:w.1<=8):uA [x0,some (iM pl),x2,some (.lst (as.map .int)),x4,x5,some (.lst ((List.range w.1).map λ j=>.int (f j))),x7,x8]=some (.rt (.lst ((List.range (w.1+1)).map λ j=>.int (if j=w.1 then adD as pl else f j)))):=by
 have e1:dIx (.lst (as.map .int)) (iM pl)=some (.int (adD as pl)):=by show atI (as.map Dt.int) (pl:Int)=_;refine lx ?_;rw[ax,aC hl];unfold adD;rw[au,aC hl];rfl
 have e2:De (.lst ((List.range w.1).map λ j=>.int (f j))) (.lst [.int (adD as pl)])=some (.lst ((List.range (w.1+1)).map λ j=>.int (if j=w.1 then adD as pl else f j))):=by show(if ((List.range w.1).map λ j=>Dt.int (f j)).length+[Dt.int (adD as pl)].length<=1000 then some (Dt.lst (((List.range w.1).map λ j=>Dt.int (f j))++[.int (adD as pl)])) else none)=_;rw[af (by simp;lia),G9]
 generalize (List.range (w.1+1)).map (λ j=>Dt.int (if j=w.1 then adD as pl else f j))=r at *;generalize (List.range w.1).map (λ j=>Dt.int (f j))=q at *;generalize iM pl=np at *;generalize as.map Dt.int=am at *;simp[uA,e1,e2]
theorem S9 (hl:w.2.length<=30)(x0 x2 x3 x4 x6 x7 x8:iA Dt):uN [x0,some (iM pl),x2,x3,x4,some (kc w.2),x6,x7,x8]=some (.tup ((nb w.2 pl).map iM)):=by have tk:=DF (xp w.2) hl pl;generalize (nb w.2 pl).map iM=ps at *;generalize kc w.2=tt at *;generalize iM pl=np at *;simp[uN,tk]
theorem QJ {nr:V}{ot:Nat}(x:EH K w kvs as v0 v2 v3 v5 H0 p f H)(ho:ot<w.1)(h:∀ H',EH K w kvs as v0 v2 v3 v5 H0 p (λ i=>if i=ot then -1 else f i) H'->jY H H'->D.nx (sgE v0 pl v2 v3 w.1 v5 p (some nr) (some (cV ot))) H'):eB K D (sgE v0 pl v2 v3 w.1 v5 p (some nr) (some (cV ot))) H:=by refine⟨_,_,x.sat _ _,show uM _=some (.int (-1)) from rfl,λ v H1 s1 i1=>?_⟩;rw[i1.int_inv];have x1:=x.ext s1;exact⟨_,rfl,_,rfl,p,_,_,ot,rfl,rfl,x1.hp,by rw[ag,bJ];exact oD ho,h _ (x1.put ot (-1)) (s1.text.trans x1.text)⟩
theorem QK {nr:V}{ot:iA V}{ns:List Nat}(x:EH K w kvs as v0 v2 v3 v5 H0 p f H)(i7:Is K H nr (.tup (ns.map iM)))(hn:∀ j∈ns,j<w.1)
  (h:∀ ot H',EH K w kvs as v0 v2 v3 v5 H0 p (λ i=>if i∈ns then -1 else f i) H'->jY H H'->D.nx (sgE v0 pl v2 v3 w.1 v5 p (some nr) ot) H'):eF K D (sgE v0 pl v2 v3 w.1 v5 p (some nr) ot) H:=by
 refine⟨_,ns.map iM,x.SW i7 ot,?_,oP.of (λ d hd=>by obtain⟨t,_,rfl⟩:=aD.mp hd;exact .int _),λ J H5 s5 ok=>?_⟩
 ·generalize ns.map iM=zs;simp[ud]
 ·have x5:=x.ext s5
  refine DL ok (λ j σ' H'=>∃ (ot:iA V),σ'=sgE v0 pl v2 v3 w.1 v5 p (some nr) ot/\EH K w kvs as v0 v2 v3 v5 H0 p (λ i=>if i∈ns.take j then -1 else f i) H'/\jY H5 H')
   ⟨ot,rfl,?_,jY.refl⟩ (λ j σ' H' _ z=>by obtain⟨_,_,_,t⟩:=z;exact t) ?_ ?_
  ·have:(λ i=>if i∈ns.take 0 then -1 else f i)=f:=by funext i;simp
   rw[this];exact x5
  ·rintro j dd xv σ' H6 hj ixv ⟨ot,rfl,d6,t6⟩
   rw[ax]at hj;cases hnr:ns[j]? with
   | none=>rw[hnr]at hj;cases hj
   | some near =>
    rw[hnr]at hj;cases hj;have hx:=ixv.int_inv;subst hx;refine QJ d6 (hn near (a8 hnr)) λ H7 d7 t7=>⟨_,rfl,?_,t6.trans t7⟩;have:(λ i=>if i∈ns.take (j+1) then (-1:Int) else f i)=λ i=>if i=near then -1 else if i∈ns.take j then -1 else f i:=by
     funext i;rw[eT,hnr];by_cases c:i=near
     ·simp[c]
     ·by_cases c2:i∈ns.take j
      ·simp[c,c2]
      ·simp[c,c2]
    rw[this];exact d7
  ·rintro σ' H6 ⟨ot,rfl,d6,t6⟩;rw[ag,fu]at d6;exact h _ _ d6 (s5.text.trans t6)
end
theorem Vw {σ:L2.St}(h:σ.length=9):∃ x0 x1 x2 x3 x4 x5 x6 x7 x8:iA V,σ=[x0,x1,x2,x3,x4,x5,x6,x7,x8]:=by
 match σ,h with
 | [x0,x1,x2,x3,x4,x5,x6,x7,x8],_=>exact⟨_,_,_,_,_,_,_,_,_,rfl⟩
section
variable {K:iF}{w:Web}{kvs:List (Int×Int)}{as:List Int}{v0 v2 v3 v5:V}{H0 H:Hp}{p:Addr}{pl:Nat}{D:Ends}
theorem QL {v:Int}(h:mH kvs (pl:Int)=some v):Dt.lst ((List.range (w.1+1)).map λ j=>.int (if j=w.1 then v else if j=pl then 1 else 0))=jN (eqA w (gvD kvs) (adD as)) w.1 pl:=by unfold jN;congr 1;refine aK λ j _=>?_;unfold eqA;have:gvD kvs pl=some v:=h;rw[this]
theorem QM (h:mH kvs (pl:Int)=none):Dt.lst ((List.range (w.1+1)).map λ j=>.int (if j=w.1 then adD as pl else if j=pl then ((nb w.2 pl).length:Int) else if j∈nb w.2 pl then -1 else 0))=jN (eqA w (gvD kvs) (adD as)) w.1 pl:=by unfold jN;congr 1;refine aK λ j _=>?_;unfold eqA;have:gvD kvs pl=none:=h;rw[this];rfl
theorem Good.QN (g:Good w)(hpl:pl<w.1)(hl:as.length=w.1)(hk:mH kvs (pl:Int)=none){x7 x8:iA V}(x:EH K w kvs as v0 v2 v3 v5 H0 p (λ _=>0) H)
  (q:∀ v H',iZ H0 H'->Is K H' v (jN (eqA w (gvD kvs) (adD as)) w.1 pl)->D.rt v H'):eR K D (sgE v0 pl v2 v3 w.1 v5 p x7 x8) H:=by
 refine⟨_,_,x.sat x7 x8,S9 (by have:=g.len;lia) ..,λ nr H1 s1 i1=>?_⟩;have x1:=x.ext s1;refine QK x1 i1 (λ j hj=>(g.jB hj).1) λ ot H2 x2 t2=>?_;have i2:Is K H2 nr (.tup ((nb w.2 pl).map iM)):=i1.text t2 (.tup (oP.of λ d hd=>by obtain⟨t,_,rfl⟩:=aD.mp hd;exact .int _));have ul:uL [some (i8 w),some (iM pl),some (.dct kvs),some (.lst (as.map .int)),some (iM w.1),some (kc w.2),some (.lst ((List.range w.1).map λ j=>.int (if j∈nb w.2 pl then -1 else 0))),some (.tup ((nb w.2 pl).map iM)),none]=some (.int ((nb w.2 pl).length:Int)):=by
  have:(((nb w.2 pl).map iM).length:Int)=((nb w.2 pl).length:Int):=by rw[ag]
  rw[<-this];generalize (nb w.2 pl).map iM=ps;simp[uL]
 refine⟨_,_,x2.SW i2 ot,ul,λ v H3 s3 i3=>?_⟩;rw[i3.int_inv];have x3:=x2.ext s3;refine⟨_,rfl,_,rfl,p,_,_,pl,rfl,rfl,x3.hp,by rw[ag,bJ];exact oD hpl,?_⟩;have x4:=x3.put pl ((nb w.2 pl).length:Int);refine⟨_,_,x4.sat _ _,SY _ _ _ _ _ _ (Nat.lt_of_lt_of_eq hpl hl.symm) g.km,λ H5 s5 v iv=>?_⟩
 ·exact q v H5 (x4.same.trans s5) (by rw[QM hk]at iv;exact iv)
theorem Good.KD (g:Good w)(hpl:pl<w.1)(hl:as.length=w.1){σ:L2.St}(S:Sat K H σ [some (i8 w),some (iM pl),some (.dct kvs),some (.lst (as.map .int)),none,none,none,none,none])
  (q:∀ v H',iZ H H'->Is K H' v (jN (eqA w (gvD kvs) (adD as)) w.1 pl)->D.rt v H'):SV K D σ H:=by
 have h8:=g.km;refine⟨_,_,S,show u1 _=some (.nx [some (i8 w),some (iM pl),some (.dct kvs),some (.lst (as.map .int)),some (iM w.1),some (kc w.2),none,none,none]) from rfl,λ H1 s1 σ1 S1=>?_⟩;obtain⟨x0,x1,x2,x3,x4,x5,x6,x7,x8,rfl⟩:=Vw S1.len;obtain⟨v0,e0,i0⟩:=S1.at_ 0 _ rfl;obtain⟨v1,e1,i1⟩:=S1.at_ 1 _ rfl;obtain⟨v2,e2,i2⟩:=S1.at_ 2 _ rfl;obtain⟨v3,e3,i3⟩:=S1.at_ 3 _ rfl;obtain⟨v4,e4,i4⟩:=S1.at_ 4 _ rfl;obtain⟨v5,e5,i5⟩:=S1.at_ 5 _ rfl;rw[i1.int_inv]at e1;rw[i4.int_inv]at e4;cases e0;cases e1;cases e2;cases e3;cases e4;cases e5;refine⟨fU rfl,λ l hlf=>⟨_,rfl,?_⟩⟩;refine⟨l,(w.1:Int),[V.int 0],rfl,rfl,iU,by lia,by lia,by rw[sizeLine_eq];simp;lia,λ p hp=>?_⟩;have s2:iZ H1 (upd H1 l (.lst [V.int 0])):=iZ.upd hlf;have s3:iZ (upd H1 l (.lst [V.int 0])) (upd (upd H1 l (.lst [V.int 0])) p (.lst (List.replicate (w.1:Int).toNat [V.int 0]).flatten)):=iZ.upd hp;have er:(List.replicate (w.1:Int).toNat [V.int 0]).flatten=rwV w.1 (λ _=>0):=by
  rw[bQ];show _=(List.range w.1).map λ _=>V.int 0;clear hpl hl h8 s3 hp q S S1 i0 i5 g;generalize w.1=n;induction n with
  | zero=>rfl
  | succ n ih=>rw[List.replicate_succ',List.flatten_append,ih,fb,a7];rfl
 rw[er]at s3 ⊢;generalize upd H1 l (.lst [V.int 0])=H2 at *;have x:EH K w kvs as v0 v2 v3 v5 H2 p (λ _=>0) (upd H2 p (.lst (rwV w.1 (λ _=>0)))):=⟨s3,hp,iU,i0.ext s2,i2.ext s2,i3.ext s2,i5.ext s2⟩;have s12:=s1.trans s2;generalize upd H2 p (.lst (rwV w.1 (λ _=>0)))=H3 at x;show eI K _ (sgE v0 pl v2 v3 w.1 v5 p x7 x8) H3;obtain⟨d,rfl,rd⟩:=(x.i2.ext x.same).rN;have dg:tT H3 d (cV pl) ((mH kvs (pl:Int)).map V.int):=by have:=yV kvs (pl:Int);rw[<-this];exact .inl ⟨kvD kvs,Sum.inl (pl:Int),rd,rfl,rfl⟩
 refine⟨_,rfl,_,rfl,d,_,rfl,dg,_,rfl,?_⟩;cases hk:mH kvs (pl:Int) with
 | none=>exact JI (g.QN hpl hl hk x λ v H' s i=>q v H' (s12.trans s) i)
 | some v =>refine EV ?_;refine⟨_,rfl,_,rfl,p,_,_,pl,rfl,rfl,x.hp,by rw[ag,bJ];exact oD hpl,?_⟩;have x4:=x.put pl 1;exact⟨_,_,x4.sat _ _,SX _ _ _ _ _ _ hk h8,λ H5 s5 u iu=>q u H5 ((s12.trans x4.same).trans s5) (by rw[QL (as:=as) hk]at iu;exact iu)⟩
end
def zc (r l:List Int)(k:Nat)(fo:Int):List Int:=(r.zip l).map λ q=>(l.getD k 0*q.1-r.getD k 0*q.2) / fo
def nO:List Dt->iA Dt
 | [.lst rs,.lst ls,.int k,.int fo]=>(kU rs).bind λ r=>(kU ls).bind λ l=>if 0<=k/\k.toNat<r.length/\k.toNat<l.length/\r.length<=1000/\(0<fo/\bd fo)/\(∀ x∈r,bd x)/\(∀ x∈l,bd x) then some (.lst ((zc r l k.toNat fo).map .int)) else none
 | _=>none
def vN:DE->iA RD:=(jJ (gLC ["one","other"] [3,1,2,0] (Fg false false (iL (iN 0) (iL (iN 1) iQ))) (kY 0 1) kA (iY Im (iY (dI (·-·)) (iY mL (iY dIx (iN 3) (iN 4)) (iN 0)) (iY mL (iY dIx (iN 5) (iN 4)) (iN 1))) (iN 2))))
abbrev II:List Str:=["row","lead","at","former"]
theorem BM {l:List Int}{k:Nat}(h:k<l.length):dIx (.lst (l.map .int)) (.int (k:Int))=some (.int (l.getD k 0)):=by show atI (l.map Dt.int) (k:Int)=_;refine lx ?_;rw[ax,aC h,au,aC h];rfl
theorem getD_mem {l:List Int}{k:Nat}(h:k<l.length):l.getD k 0∈l:=by rw[au,aC h];exact cJ h
theorem FD:Hg 4 II nO vN:=by
 intro ds d hl h;match ds,h with
 | [.lst rs,.lst ls,.int k,.int fo],h =>
  obtain⟨r,e1,h1⟩:=iP (show(kU rs).bind _=_ from h);obtain⟨l,e2,h2⟩:=iP h1;have e1:=lY e1;have e2:=lY e2;clear h h1;subst e1 e2;by_cases hc:0<=k/\k.toNat<r.length/\k.toNat<l.length/\r.length<=1000/\(0<fo/\bd fo)/\(∀ x∈r,bd x)/\(∀ x∈l,bd x)
  ·rw[af hc]at h2
   cases h2;obtain⟨c0,c1,c2,c3,c4,c5,c6⟩:=hc;obtain⟨m,rfl⟩:∃ m:Nat,k=(m:Int):=⟨k.toNat,by lia⟩;rw[bQ]at *;have i1:=BM c1;have i2:=BM c2;have zp:Fd false false [.lst (r.map .int),.lst (l.map .int)]=some ((r.zip l).map λ q=>.tup [.int q.1,.int q.2]):=by show some (((r.map Dt.int).zip (l.map Dt.int)).map λ(p,q)=>Dt.tup [p,q])=_;rw[List.zip_map,aH];rfl
   have lc:=jZ (enc:=λ q:Int×Int=>Dt.tup [.int q.1,.int q.2]) (gg:=kY 0 1) (ge:=iY Im (iY (dI (·-·)) (iY mL (iY dIx (iN 3) (iN 4)) (iN 0)) (iY mL (iY dIx (iN 5) (iN 4)) (iN 1))) (iN 2)) (δc:=[none,none,some (.int fo),some (.lst (l.map .int)),some (.int (m:Int)),some (.lst (r.map .int))])
    (δa:=λ q=>[some (.int q.1),some (.int q.2),some (.int fo),some (.lst (l.map .int)),some (.int (m:Int)),some (.lst (r.map .int))]) (enc':=λ q=>.int ((l.getD m 0*q.1-r.getD m 0*q.2) / fo)) (r.zip l) λ q hq=>⟨rfl,by
     have q1:bd q.1:=c5 _ (eh hq).1;have q2:bd q.2:=c6 _ (eh hq).2;have m1:mL (.int (l.getD m 0)) (.int q.1)=some (.int (l.getD m 0*q.1)):=by show(if bd _/\bd _ then _ else _)=_;rw[af ⟨c6 _ (getD_mem c2),q1⟩]
     have m2:mL (.int (r.getD m 0)) (.int q.2)=some (.int (r.getD m 0*q.2)):=by show(if bd _/\bd _ then _ else _)=_;rw[af ⟨c5 _ (getD_mem c1),q2⟩]
     have d1:Im (.int (l.getD m 0*q.1-r.getD m 0*q.2)) (.int fo)=some (.int ((l.getD m 0*q.1-r.getD m 0*q.2) / fo)):=by show(if _ then _ else _)=_;rw[af c4]
     generalize l.map Dt.int=lm at *;generalize r.map Dt.int=rm at *;generalize l.getD m 0=lk at *;generalize r.getD m 0=rk at *;simp[i1,i2,m1,m2,d1]⟩
   have hn:((r.zip l).map λ q=>Dt.tup [.int q.1,.int q.2]).length<=1000:=by rw[ag,fA];lia
   have er:(zc r l m fo).map Dt.int=(r.zip l).map λ q=>.int ((l.getD m 0*q.1-r.getD m 0*q.2) / fo):=by unfold zc;rw[aH];rfl
   refine⟨.rt (.lst ((zc r l m fo).map .int)),?_,rfl⟩;rw[er];generalize (r.zip l).map (λ q=>Dt.int ((l.getD m 0*q.1-r.getD m 0*q.2) / fo))=res at *;generalize (r.zip l).map (λ q=>Dt.tup [.int q.1,.int q.2])=zz at *;generalize l.map Dt.int=lm at *;generalize r.map Dt.int=rm at *;simp[vN,zp,lc,hn]
  ·rw[ah hc]at h2;cases h2
open Dt0 (Tz fm)
def rwI (a:Nat->Nat->Int)(n i:Nat):List Int:=(List.range (n+1)).map (a i)
theorem uI (a:Nat->Nat->Int)(n i:Nat):jN a n i=.lst ((rwI a n i).map .int):=by unfold jN rwI;rw[aH];rfl
theorem FE {a:Nat->Nat->Int}{n i k:Nat}(h:k<=n):(rwI a n i).getD k 0=a i k:=by unfold rwI;rw[au,ax,a_ (by lia)];rfl
theorem xB (a:Nat->Nat->Int)(n i:Nat):(rwI a n i).length=n+1:=by simp[rwI]
def pT (a:Nat->Nat->Int)(n k:Nat):Dt:=.lst ((List.range n).map λ i=>jN (Tz a k) n i)
structure mT (a:Nat->Nat->Int)(n:Nat):Prop where
 km:n<=8
 lead:∀ k,k<=n->0<fm a k/\bd (fm a k)
 ent:∀ k i j,k<=n->i<n->j<=n->bd (Tz a k i j)
def aOf (rs:List Dt)(i j:Nat):Int:=match rs[i]? with
 | some (.lst es)=>(match es[j]? with | some (.int z)=>z | _=>0)
 | _=>0
open Classical in
def pA:List Dt->iA Dt
 | [.lst rs]=>if rs=(List.range rs.length).map (jN (aOf rs) rs.length)/\mT (aOf rs) rs.length then some (.tup ((List.range rs.length).map λ i=>iO (Rat.divInt (Tz (aOf rs) rs.length i rs.length) (fm (aOf rs) rs.length)))) else none
 | _=>none
def IJ:DE->iA RD:=(jL (kZ 4 (iY dIx (iN 1) (iN 3))) (jL (kZ 1 (gLC ["k","row"] [3,4,2] (yY false (iL (iN 1) iQ)) (kY 0 1) kA (gIf (gB (iY kx (iN 0) (iN 2))) (iN 1) (iT 4 nO (iL (iN 1) (iL (iN 3) (iL (iN 2) (iL (iN 4) iQ)))))))) (kZ 2 (iY dIx (iN 4) (iN 3)))))
def Nv:DE->iA RD:=(jJ (jF pN (iL (gLC ["row"] [2] (gI lZ (iN 1)) (ggN 0) kA (iT 2 jT (iL (iY dIx (iN 0) (gUn oq (gC (.int 1)))) (iL (iN 1) iQ)))) iQ)))
def zd:DE->iA RD:=(jL (kZ 1 (jF xA (iL (iN 0) iQ))) (jL (kZ 2 (gC (.int 1))) (jL (Il (qL (iL (jF om (iL (iN 0) iQ)) iQ)) (ggN 3) (jL (kZ 4 (iY dIx (iN 1) (iN 3))) (jL (kZ 1 (gLC ["k","row"] [3,4,2] (yY false (iL (iN 1) iQ)) (kY 0 1) kA (gIf (gB (iY kx (iN 0) (iN 2))) (iN 1) (iT 4 nO (iL (iN 1) (iL (iN 3) (iL (iN 2) (iL (iN 4) iQ)))))))) (kZ 2 (iY dIx (iN 4) (iN 3)))))) (jJ (jF pN (iL (gLC ["row"] [2] (gI lZ (iN 1)) (ggN 0) kA (iT 2 jT (iL (iY dIx (iN 0) (gUn oq (gC (.int 1)))) (iL (iN 1) iQ)))) iQ))))))
abbrev La:List Str:=["rows","table","former","at","lead"]
theorem D1:zd=jL (kZ 1 (jF xA (iL (iN 0) iQ))) (jL (kZ 2 (gC (.int 1))) (jL (Il (qL (iL (jF om (iL (iN 0) iQ)) iQ)) (ggN 3) IJ) Nv)):=rfl
section
variable {a:Nat->Nat->Int}{n:Nat}
theorem mT.cl (o:mT a n){k i:Nat}(hk:k<n)(hi:i<n)(ne:i≠k):nO [jN (Tz a k) n i,jN (Tz a k) n k,iM k,.int (fm a k)]=some (jN (Tz a (k+1)) n i):=by
 have h8:=o.km;rw[uI,uI,uI];show(kU ((rwI (Tz a k) n i).map .int)).bind (λ r=>(kU ((rwI (Tz a k) n k).map .int)).bind λ l=>if 0<=(k:Int)/\(k:Int).toNat<r.length/\(k:Int).toNat<l.length/\r.length<=1000/\(0<fm a k/\bd (fm a k))/\(∀ x∈r,bd x)/\(∀ x∈l,bd x) then some (Dt.lst ((zc r l (k:Int).toNat (fm a k)).map .int)) else none)=_;have bdr:∀ i,i<n->∀ x∈rwI (Tz a k) n i,bd x:=λ i hi x hx=>by obtain⟨j,hj,rfl⟩:=aD.mp hx;exact o.ent k i j (by lia) hi (by have:=aw.mp hj;lia)
 rw[o_,o_,ae,ae,bQ,af ⟨by lia,by rw[xB];lia,by rw[xB];lia,by rw[xB];lia,o.lead k (by lia),bdr i hi,bdr k hk⟩];congr 3;unfold zc;rw[FE (by lia),FE (by lia)];unfold rwI;rw[List.zip_map',aH];refine aK λ j _=>?_;show(Tz a k k k*Tz a k i j-Tz a k i k*Tz a k k j) / fm a k=if i=k then _ else _
 rw[ah ne]
theorem QO {k i:Nat}(h:i<n):dIx (pT a n k) (iM i)=some (jN (Tz a k) n i):=by show atI ((List.range n).map λ i=>jN (Tz a k) n i) (i:Int)=_;refine lx ?_;rw[ax,a_ h];rfl
theorem QP {k i j:Nat}(h:j<=n):dIx (jN (Tz a k) n i) (iM j)=some (.int (Tz a k i j)):=by rw[uI];have:=BM (l:=rwI (Tz a k) n i) (k:=j) (by rw[xB];lia);rw[FE h]at this;exact this
theorem Lb (k i:Nat):dIx (jN (Tz a k) n i) (.int (-1))=some (.int (Tz a k i n)):=by show atI ((List.range (n+1)).map λ j=>Dt.int (Tz a k i j)) (-1)=_;rw[fb,a7];exact tP _ _
theorem mT.turn (o:mT a n){k:Nat}(hk:k<n)(x4:iA Dt)(x0:Dt):IJ [some x0,some (pT a n k),some (.int (fm a k)),some (iM k),x4]=some (.nx [some x0,some (pT a n (k+1)),some (.int (fm a (k+1))),some (iM k),some (jN (Tz a k) n k)]):=by
 have h8:=o.km;have t1:=QO (a:=a) (k:=k) hk;have r1:=QP (a:=a) (n:=n) (k:=k) (i:=k) (j:=k) (by lia);have en:=za false (x:=pT a n k) (λ i=>jN (Tz a k) n i) n rfl;have lc:=jZ (enc:=λ i=>Dt.tup [iM i,jN (Tz a k) n i]) (gg:=kY 0 1) (ge:=gIf (gB (iY kx (iN 0) (iN 2))) (iN 1) (iT 4 nO (iL (iN 1) (iL (iN 3) (iL (iN 2) (iL (iN 4) iQ)))))) (δc:=[none,none,some (iM k),some (jN (Tz a k) n k),some (.int (fm a k))])
  (δa:=λ i=>[some (iM i),some (jN (Tz a k) n i),some (iM k),some (jN (Tz a k) n k),some (.int (fm a k))]) (enc':=λ i=>jN (Tz a (k+1)) n i) (List.range n) λ i hi=>⟨rfl,by
   have hi:=aw.mp hi;have e:kx (iM i) (iM k)=some (.bl (i==k)):=by show some (Dt.bl ((i:Int)==(k:Int)))=_;rw[kN]
   by_cases c:i=k
   ·have rr:jN (Tz a k) n i=jN (Tz a (k+1)) n i:=by
     unfold jN;congr 1;refine aK λ j _=>?_;show Dt.int (Tz a k i j)=.int (if i=k then Tz a k i j else _);rw[af c]
    rw[<-rr];generalize jN (Tz a k) n i=ri at *;generalize jN (Tz a k) n k=rk at *;have ck:(i==k)=true:=by simpa using c
    rw[ck]at e;generalize iM i=ni at *;generalize iM k=nk at *;simp[e]
   ·have cl:=o.cl hk hi c
    generalize jN (Tz a (k+1)) n i=rr at *;generalize jN (Tz a k) n i=ri at *;generalize jN (Tz a k) n k=rk at *;have ck:(i==k)=false:=by simpa using c
    rw[ck]at e;generalize iM i=ni at *;generalize iM k=nk at *;simp[e,cl]⟩
 have hn:((List.range n).map λ i=>Dt.tup [iM i,jN (Tz a k) n i]).length<=1000:=by simp;lia
 have ef:fm a (k+1)=Tz a k k k:=rfl;rw[ef];show _=some (RD.nx [some x0,some (.lst ((List.range n).map λ i=>jN (Tz a (k+1)) n i)),_,_,_]);generalize (List.range n).map (λ i=>jN (Tz a (k+1)) n i)=res at *;generalize (List.range n).map (λ i=>Dt.tup [iM i,jN (Tz a k) n i])=zz at *;generalize pT a n k=tk at *;generalize jN (Tz a k) n k=rk at *;generalize iM k=nk at *;simp[IJ,t1,en,lc,hn,r1]
theorem mT.loop (o:mT a n)(x0:Dt):∀ (m k:Nat) (x3 x4:iA Dt),k+m=n->∃ y3 y4,wc (ggN 3) IJ [some x0,some (pT a n k),some (.int (fm a k)),x3,x4] ((List.range' k m).map iM)=some (.nx [some x0,some (pT a n n),some (.int (fm a n)),y3,y4])
 | 0,k,x3,x4,h=>by
  have:k=n:=by lia
  subst this;exact⟨x3,x4,rfl⟩
 | m+1,k,x3,x4,h=>by obtain⟨y3,y4,ih⟩:=mT.loop o x0 m (k+1) (some (iM k)) (some (jN (Tz a k) n k)) (by lia);refine⟨y3,y4,?_⟩;rw[List.range'_succ,aq,wc,Sw,ae];show(IJ [some x0,some (pT a n k),some (.int (fm a k)),some (iM k),x4]).bind _=_;rw[o.turn (by lia),ae];exact ih
theorem mT.ret (o:mT a n)(x0 x3 x4:iA Dt):Nv [x0,some (pT a n n),some (.int (fm a n)),x3,x4]=some (.rt (.tup ((List.range n).map λ i=>iO (Rat.divInt (Tz a n i n) (fm a n))))):=by
 have h8:=o.km;have ld:=o.lead n (ak _);have lc:=jZ (enc:=λ i=>jN (Tz a n) n i) (gg:=ggN 0) (ge:=iT 2 jT (iL (iY dIx (iN 0) (gUn oq (gC (.int 1)))) (iL (iN 1) iQ))) (δc:=[none,some (.int (fm a n))]) (δa:=λ i=>[some (jN (Tz a n) n i),some (.int (fm a n))]) (enc':=λ i=>iO (Rat.divInt (Tz a n i n) (fm a n))) (List.range n) λ i _=>⟨rfl,by
  have rl:=Lb (a:=a) (n:=n) n i;have ff:jT [.int (Tz a n i n),.int (fm a n)]=some (iO (Rat.divInt (Tz a n i n) (fm a n))):=by rw[nJ,af ld]
  generalize jN (Tz a n) n i=ri at *;generalize iO (Rat.divInt (Tz a n i n) (fm a n))=en at *;simp[gUn,oq,rl,ff,-nJ]⟩
 have hn:((List.range n).map λ i=>jN (Tz a n) n i).length<=1000:=by simp;lia
 unfold pT;generalize (List.range n).map (λ i=>iO (Rat.divInt (Tz a n i n) (fm a n)))=res at *;generalize (List.range n).map (λ i=>jN (Tz a n) n i)=zz at *;simp[Nv,lc,hn]
end
open Classical in
theorem IK:Hg 1 La pA zd:=by
 intro ds d hl h;match ds,h with
 | [.lst rs],h =>
  have h:(if rs=(List.range rs.length).map (jN (aOf rs) rs.length)/\mT (aOf rs) rs.length then some (Dt.tup ((List.range rs.length).map λ i=>iO (Rat.divInt (Tz (aOf rs) rs.length i rs.length) (fm (aOf rs) rs.length)))) else none)=some d:=by unfold pA at h;exact h
  by_cases hc:rs=(List.range rs.length).map (jN (aOf rs) rs.length)/\mT (aOf rs) rs.length
  ·rw[af hc]at h
   cases h;obtain⟨e,o⟩:=hc;have h8:=o.km;generalize aOf rs=a at *;generalize hn:rs.length=n at *;have et:Dt.lst rs=pT a n 0:=by rw[e];rfl
   refine⟨.rt _,?_,rfl⟩;obtain⟨y3,y4,lp⟩:=o.loop (pT a n 0) n 0 none none (by lia);have rt:=o.ret (some (pT a n 0)) y3 y4;have hr:yo [iM n]=some ((List.range n).map iM):=nW (n:=n) (by lia);rw[<-List.range_eq_range']at lp;have l1:om [pT a n 0]=some (iM n):=by rw[<-et];show some (Dt.int (rs.length:Int))=_;rw[hn]
   have l2:xA [pT a n 0]=some (pT a n 0):=rfl;have f0:fm a 0=1:=rfl;rw[f0]at lp;rw[D1,et];show jL _ _ [some (pT a n 0),none,none,none,none]=_;generalize (List.range n).map iM=rs' at *;generalize (List.range n).map (λ i=>iO (Rat.divInt (Tz a n i n) (fm a n)))=res at *;generalize pT a n n=tn at *;generalize pT a n 0=t0 at *;generalize IJ=bb at *;generalize Nv=rr at *;generalize iM n=nn at *;simp[l1,l2,hr,lp,rt]
  ·rw[ah hc]at h;cases h
open Dt0 (Tz fm)
theorem D2 {a b:Nat->Nat->Int}{n:Nat}(h:∀ i j,i<n->j<=n->a i j=b i j):∀ k,k<=n->(∀ i j,i<n->j<=n->Tz a k i j=Tz b k i j)/\fm a k=fm b k
 | 0,_=>⟨h,rfl⟩
 | k+1,hk=>by obtain⟨h1,h2⟩:=D2 h k (by lia);refine⟨λ i j hi hj=>?_,h1 k k (by lia) (by lia)⟩;show(if i=k then Tz a k i j else (Tz a k k k*Tz a k i j-Tz a k i k*Tz a k k j) / fm a k)=(if i=k then Tz b k i j else (Tz b k k k*Tz b k i j-Tz b k i k*Tz b k k j) / fm b k);rw[h1 i j hi hj,h1 k k (by lia) (by lia),h1 i k hi (by lia),h1 k j (by lia) hj,h2]
theorem G_ {a:Nat->Nat->Int}{n i j:Nat}(hi:i<n)(hj:j<=n):aOf ((List.range n).map (jN a n)) i j=a i j:=by unfold aOf;rw[ax,a_ hi];show(match ((List.range (n+1)).map λ j=>Dt.int (a i j))[j]? with | some (.int z)=>z | _=>0)=_;rw[ax,a_ (by lia)];rfl
open Classical in
theorem mT.solved {a:Nat->Nat->Int}{n:Nat}(o:mT a n):pA [.lst ((List.range n).map (jN a n))]=some (.tup ((List.range n).map λ i=>iO (Rat.divInt (Tz a n i n) (fm a n)))):=by
 have hl:((List.range n).map (jN a n)).length=n:=by simp
 have cg:=D2 (a:=aOf ((List.range n).map (jN a n))) (b:=a) (n:=n) λ i j hi hj=>G_ hi hj;have hc:(List.range n).map (jN a n)=(List.range n).map (jN (aOf ((List.range n).map (jN a n))) n)/\mT (aOf ((List.range n).map (jN a n))) n:=by refine⟨aK λ i hi=>?_,o.km,λ k hk=>by rw[(cg k hk).2];exact o.lead k hk,λ k i j hk hi hj=>by rw[(cg k hk).1 i j hi hj];exact o.ent k i j hk hi hj⟩;unfold jN;congr 1;refine aK λ j hj=>?_;have h1:=aw.mp hi;have h2:=aw.mp hj;have:=G_ (a:=a) h1 (show j<=n by lia);unfold jN at this;rw[this]
 have e2:(List.range n).map (λ i=>iO (Rat.divInt (Tz (aOf ((List.range n).map (jN a n))) n i n) (fm (aOf ((List.range n).map (jN a n))) n)))=(List.range n).map λ i=>iO (Rat.divInt (Tz a n i n) (fm a n)):=aK λ i hi=>by rw[(cg n (ak _)).1 i n (aw.mp hi) (ak _),(cg n (ak _)).2]
 unfold pA;simp only[hl];rw[af hc,e2]
theorem Good.qU {w:Web}(g:Good w)(i:Nat):dg w i<=7:=by
 unfold dg;cases h:nb w.2 i with
 | nil=>exact bg _
 | cons x r =>have:=g.jB (p:=i) (j:=x) (by rw[h];exact ar);rw[<-h];exact g.Qv i this.2.1
section
variable {w:Web}(g:Good w){gv:Nat->iA Int}{ad:Nat->Int}
include g
theorem Good.AN (hv:∀ i v,gv i=some v->v.natAbs<=1000)(ha:∀ i,(ad i).natAbs<=1000)(i j:Nat):(eqA w gv ad i j).natAbs<=1000:=by
 unfold eqA;cases h:gv i with
 | some v =>
  show(if j=w.1 then v else if j=i then 1 else 0:Int).natAbs<=1000;by_cases c:j=w.1
  ·rw[af c];exact hv i v h
  ·rw[ah c]
   by_cases c2:j=i
   ·rw[af c2];decide
   ·rw[ah c2];decide
 | none =>
  show(if j=w.1 then ad i else if j=i then (dg w i:Int) else if j∈nb w.2 i then -1 else 0:Int).natAbs<=1000;by_cases c:j=w.1
  ·rw[af c];exact ha i
  ·rw[ah c]
   by_cases c2:j=i
   ·rw[af c2];have:=g.qU i;lia
   ·rw[ah c2]
    by_cases c3:j∈nb w.2 i
    ·rw[af c3];decide
    ·rw[ah c3];decide
theorem Good.BN (hg:∃ p,p<w.1/\gv p≠none)(hv:∀ i v,gv i=some v->v.natAbs<=1000)(ha:∀ i,(ad i).natAbs<=1000) :
  mT (eqA w gv ad) w.1/\(∀ i,Rat.divInt (Tz (eqA w gv ad) w.1 i w.1) (fm (eqA w gv ad) w.1)=sol w gv ad i)/\∀ i,(sol w gv ad i).num.natAbs<2 ^ 200/\(sol w gv ad i).den<2 ^ 200:=by
 have mm:=g.mm (ad:=ad) hg;have ab:=λ k (hk:k<=w.1) i j=>Dt0.Oa g.km mm.ne (g.AN hv ha) hk i j;have pw:(2:Nat) ^ 200<=2 ^ 4000:=bN (by decide) (by decide);have pos:∀ k,k<=w.1->0<fm (eqA w gv ad) k:=λ k hk=>by have h1:=mm.EC k hk;rw[<-(Dt0.Ae mm.ne k hk).2.1]at h1;exact Rat.intCast_pos.mp h1
 have so:mT (eqA w gv ad) w.1:=⟨g.km,λ k hk=>⟨pos k hk,aJ (ab k hk 0 0).2 pw⟩,λ k i j hk _ _=>aJ (ab k hk i j).1 pw⟩;have eq:∀ i,Rat.divInt (Tz (eqA w gv ad) w.1 i w.1) (fm (eqA w gv ad) w.1)=sol w gv ad i:=λ i=>by obtain⟨t1,t2,t3⟩:=Dt0.Ae mm.ne w.1 (ak _);rw[fg,t1,t2];show _=Dt0.rd (Dt0.qA (eqA w gv ad)) w.1 i w.1;rw[gf,Rat.mul_assoc,bZ _ t3,Rat.mul_one]
 refine⟨so,eq,λ i=>?_⟩;have p:=pos w.1 (ak _);obtain⟨b1,b2⟩:=ab w.1 (ak _) i w.1;rw[<-eq i];obtain⟨d1,d2⟩:=pP (a:=Tz (eqA w gv ad) w.1 i w.1) p;obtain⟨g1,g2⟩:=Bw (a:=Tz (eqA w gv ad) w.1 i w.1) p;generalize Rat.divInt (Tz (eqA w gv ad) w.1 i w.1) (fm (eqA w gv ad) w.1)=q at *;generalize Tz (eqA w gv ad) w.1 i w.1=t at *;generalize fm (eqA w gv ad) w.1=f at *;constructor
 ·rw[d1];refine bR ?_ b1;exact gR _ _
 ·have:(q.den:Int)<=f:=by rw[d2];exact Int.ediv_le_self _ (by lia)
  have:q.den<=f.natAbs:=by lia
  exact bR this b2
end
structure wj (w:Web)(kvs:List (Int×Int))(as:List Int):Prop where
 len:as.length=w.1
 has:∃ p,p<w.1/\gvD kvs p≠none
 vs:∀ i v,gvD kvs i=some v->v.natAbs<=1000
 ads:∀ a∈as,a.natAbs<=1000
open Classical in
def lg:List Dt->iA Dt
 | [x,.dct kvs,.lst es]=>(dW x).bind λ w=>(kU es).bind λ as=>if wj w kvs as then some (.tup ((List.range w.1).map λ i=>iO (sol w (gvD kvs) (adD as) i))) else none
 | _=>none
def sY:DE->iA RD:=(jJ (iT 1 pA (iL (gLC ["place"] [0,1,2] (qL (iL (iY dIx (iN 0) (gC (.int 0))) iQ)) (ggN 0) kA (iT 4 pS (iL (iN 1) (iL (iN 0) (iL (iN 2) (iL (iN 3) iQ)))))) iQ)))
abbrev FF:List Str:=["web","given","added"]
open Classical in
theorem FG {w:Web}(g:Good w){kvs:List (Int×Int)}{as:List Int}(b:wj w kvs as):lg [i8 w,.dct kvs,.lst (as.map .int)]=some (.tup ((List.range w.1).map λ i=>iO (sol w (gvD kvs) (adD as) i))):=by unfold lg;show(dW (i8 w)).bind (λ w=>(kU (as.map .int)).bind λ as=>if wj w kvs as then some (Dt.tup ((List.range w.1).map λ i=>iO (sol w (gvD kvs) (adD as) i))) else none)=_;rw[kf g,o_,ae,ae,af b]
theorem rY {as:List Int}(h:∀ a∈as,a.natAbs<=1000)(i:Nat):(adD as i).natAbs<=1000:=by
 unfold adD;rw[au];cases e:as[i]? with
 | none=>decide
 | some a=>exact h a (a8 e)
open Classical in
theorem D3:Hg 3 FF lg sY:=by
 intro ds d hl h;match ds,h with
 | [x,.dct kvs,.lst es],h =>
  have h:(dW x).bind (λ w=>(kU es).bind λ as=>if wj w kvs as then some (Dt.tup ((List.range w.1).map λ i=>iO (sol w (gvD kvs) (adD as) i))) else none)=some d:=by unfold lg at h;exact h
  obtain⟨w,e1,h1⟩:=iP h;obtain⟨as,e2,h2⟩:=iP h1;obtain⟨rfl,g⟩:=kd e1;have e2:=lY e2;clear h h1;subst e2;by_cases hc:wj w kvs as
  ·rw[af hc]at h2
   cases h2;obtain⟨so,eq,_⟩:=g.BN (ad:=adD as) hc.has hc.vs (rY hc.ads);have sv:=so.solved;have er:(List.range w.1).map (λ i=>iO (Rat.divInt (Tz (eqA w (gvD kvs) (adD as)) w.1 i w.1) (fm (eqA w (gvD kvs) (adD as)) w.1)))=(List.range w.1).map λ i=>iO (sol w (gvD kvs) (adD as) i):=aK λ i _=>by rw[eq i]
   rw[er]at sv;refine⟨.rt (.tup ((List.range w.1).map λ i=>iO (sol w (gvD kvs) (adD as) i))),?_,rfl⟩;have h8:=g.km;have hr:yo [iM w.1]=some ((List.range w.1).map iM):=nW (n:=w.1) (by lia);have ix:dIx (i8 w) (.int 0)=some (iM w.1):=rfl;have lc:=jZ (enc:=iM) (gg:=ggN 0) (ge:=iT 4 pS (iL (iN 1) (iL (iN 0) (iL (iN 2) (iL (iN 3) iQ))))) (δc:=[none,some (i8 w),some (.dct kvs),some (.lst (as.map .int))]) (δa:=λ i=>[some (iM i),some (i8 w),some (.dct kvs),some (.lst (as.map .int))]) (enc':=jN (eqA w (gvD kvs) (adD as)) w.1) (List.range w.1) λ i hi=>⟨rfl,by
    have eo:pS [i8 w,iM i,.dct kvs,.lst (as.map .int)]=some (jN (eqA w (gvD kvs) (adD as)) w.1 i):=by show(dW (i8 w)).bind (λ w=>(ju (iM i)).bind λ p=>(kU (as.map .int)).bind λ as=>if p<w.1/\as.length=w.1 then some (jN (eqA w (gvD kvs) (adD as)) w.1 p) else none)=_;rw[kf g,jk,o_,ae,ae,ae,af ⟨aw.mp hi,hc.len⟩]
    generalize jN (eqA w (gvD kvs) (adD as)) w.1 i=r at *;generalize as.map Dt.int=am at *;generalize i8 w=ww at *;generalize iM i=ni at *;simp[eo]⟩
   have hn:((List.range w.1).map iM).length<=1000:=by simp;lia
   generalize (List.range w.1).map (λ i=>iO (sol w (gvD kvs) (adD as) i))=res at *;generalize (List.range w.1).map (jN (eqA w (gvD kvs) (adD as)) w.1)=rows at *;generalize (List.range w.1).map iM=rs at *;generalize as.map Dt.int=am at *;generalize i8 w=ww at *;generalize iM w.1=nw at *;simp[sY,ix,hr,lc,hn,sv]
  ·rw[ah hc]at h2;cases h2
section
variable {w:Web}(g:Good w)
include g
end
def Lc:Dt->Dt->iA Dt
 | .int k,.int v=>some (.dct [(k,v)])
 | _,_=>none
def Nw:Dt->Dt->Dt->Dt->iA Dt
 | .int k,.int v,.int k2,.int v2=>if k=k2 then none else some (.dct [(k,v),(k2,v2)])
 | _,_,_,_=>none
def Ha (gk gv:DE->iA Dt):DE->iA Dt:=λ δ=>(gk δ).bind λ x=>(gv δ).bind λ y=>Lc x y
def Ld (gk gv gk2 gv2:DE->iA Dt):DE->iA Dt:=λ δ=>(gk δ).bind λ x=>(gv δ).bind λ y=>(gk2 δ).bind λ x2=>(gv2 δ).bind λ y2=>Nw x y x2 y2
@[simp] theorem Vx {δ:DE} (gk gv:DE->iA Dt):Ha gk gv δ=(gk δ).bind λ x=>(gv δ).bind λ y=>Lc x y:=rfl
@[simp] theorem Vy {δ:DE} (gk gv gk2 gv2:DE->iA Dt):Ld gk gv gk2 gv2 δ=(gk δ).bind λ x=>(gv δ).bind λ y=>(gk2 δ).bind λ x2=>(gv2 δ).bind λ y2=>Nw x y x2 y2:=rfl
theorem Le {x y d:Dt}(h:Lc x y=some d):∃ k v,x=.int k/\y=.int v/\d=.dct [(k,v)]:=by
 cases x with
 | int k=>cases y with
  | int v=>exact⟨k,v,rfl,rfl,(aF h).symm⟩
  | _=>cases h
 | _=>cases h
theorem Lf {x y x2 y2 d:Dt}(h:Nw x y x2 y2=some d):∃ k v k2 v2,x=.int k/\y=.int v/\x2=.int k2/\y2=.int v2/\k≠k2/\d=.dct [(k,v),(k2,v2)]:=by
 cases x with
 | int k=>cases y with
  | int v=>cases x2 with
   | int k2=>cases y2 with
    | int v2 =>
     have h:(if k=k2 then none else some (Dt.dct [(k,v),(k2,v2)]))=some d:=h;by_cases c:k=k2
     ·rw[af c]at h;cases h
     ·rw[ah c]at h;exact⟨k,v,k2,v2,rfl,rfl,rfl,rfl,c,(aF h).symm⟩
    | _=>cases h
   | _=>cases h
  | _=>cases h
 | _=>cases h
section
variable {X:Cx}{k v k2 v2:Expr}{pos:Pos}
theorem Hb {gk gv:DE->iA Dt}(hk:PD X k gk)(hv:PD X v gv):PD X (.Dict [some k] [v] pos) (Ha gk gv) :=
 (Bd (tU hk hv Bc) rfl rfl (by simp) (by simp)).of λ σ H Q hz=>by obtain⟨δ,d,S,e,q⟩:=hz;obtain⟨x,e1,e⟩:=iP e;obtain⟨y,e2,e⟩:=iP e;obtain⟨a,b,rfl,rfl,rfl⟩:=Le e;intro p hp;have s0:iZ H (upd H p (.dK [])):=iZ.upd hp;refine⟨δ,_,S.ext s0,e1,λ u H1 s1 i1=>⟨δ,_,(S.ext s0).ext s1,e2,λ u2 H2 s2 i2=>?_⟩⟩;rw[i1.int_inv,i2.int_inv];refine⟨s2 _ _ (s1 _ _ iU),[(Sum.inl a,.int b)],rfl,by simp,q _ _ ?_ (.dct (.inl iU))⟩;exact λ c o h=>by have cp:c≠p:=jn h hp;rw[ja cp];exact s2 _ _ (s1 _ _ (s0 _ _ h))
theorem QQ {a b a2 b2:Int}(h:a≠a2):sJ [] [(Sum.inl a,V.int b),(Sum.inl a2,V.int b2)]=kvD [(a,b),(a2,b2)]:=by show putK (putK [] (Sum.inl a) (V.int b)) (Sum.inl a2) (V.int b2)=_;have e1:putK ([]:List (Key×V)) (Sum.inl a) (V.int b)=[(Sum.inl a,V.int b)]:=rfl;rw[e1,CO _ (by rw[tS (by intro z;exact h (Sum.inl.inj z))];exact JD)];rfl
theorem Ny {gk gv gk2 gv2:DE->iA Dt}(hk:PD X k gk)(hv:PD X v gv)(hk2:PD X k2 gk2)(hv2:PD X v2 gv2):PD X (.Dict [some k,some k2] [v,v2] pos) (Ld gk gv gk2 gv2) :=
 (Bd (tU hk hv (tU hk2 hv2 Bc)) rfl rfl (by simp) (by simp)).of λ σ H Q hz=>by obtain⟨δ,d,S,e,q⟩:=hz;obtain⟨x,e1,e⟩:=iP e;obtain⟨y,e2,e⟩:=iP e;obtain⟨x2,e3,e⟩:=iP e;obtain⟨y2,e4,e⟩:=iP e;obtain⟨a,b,a2,b2,rfl,rfl,rfl,rfl,ne,rfl⟩:=Lf e;intro p hp;have s0:iZ H (upd H p (.dK [])):=iZ.upd hp;refine⟨δ,_,S.ext s0,e1,λ u H1 s1 i1=>⟨δ,_,(S.ext s0).ext s1,e2,λ u2 H2 s2 i2=>⟨δ,_,((S.ext s0).ext s1).ext s2,e3,λ u3 H3 s3 i3=>⟨δ,_,(((S.ext s0).ext s1).ext s2).ext s3,e4,λ u4 H4 s4 i4=>?_⟩⟩⟩⟩;rw[i1.int_inv,i2.int_inv,i3.int_inv,i4.int_inv];have sm:=s1.trans (s2.trans (s3.trans s4));refine⟨sm _ _ iU,[(Sum.inl a,.int b),(Sum.inl a2,.int b2)],rfl,by simp,?_⟩;rw[QQ ne];refine q _ _ ?_ (.dct (.inl iU));exact λ c o h=>by have cp:c≠p:=jn h hp;rw[ja cp];exact sm _ _ (s0 _ _ h)
end
def bt (x:Rat)(e:Nat):Prop:=x.num.natAbs<2 ^ e/\x.den<2 ^ e
theorem OR {a b:Int}(h:0<b):(Rat.divInt a b).num.natAbs<=a.natAbs/\(Rat.divInt a b).den<=b.natAbs:=by
 obtain⟨d1,d2⟩:=pP (a:=a) h;obtain⟨g1,g2⟩:=Bw (a:=a) h;constructor
 ·rw[d1];exact gR _ _
 ·have:((Rat.divInt a b).den:Int)<=b:=by rw[d2];exact Int.ediv_le_self _ (by lia)
  lia
theorem Nz {x:Rat}{e f:Nat}(h:bt x e)(l:e<=f):bt x f:=⟨aJ h.1 (bN (by decide) l),aJ h.2 (bN (by decide) l)⟩
theorem OS {x:Rat}{e:Nat}(h:bt x e)(l:e<=1900):sm x:=Nz h l
def meL (w:Web)(b:Nat):List Rat:=(List.range w.1).map (meQ w b)
def ahL (w:Web)(a b:Nat):List Rat:=(List.range w.1).map (ahQ w a b)
def uJ:List Dt->iA Dt:=yu λ x y=>(dW x).bind λ w=>(ju y).bind λ b=>if b<w.1 then some (.tup ((meL w b).map iO)) else none
def QR:List Dt->iA Dt
 | [x,y,z]=>(dW x).bind λ w=>(ju y).bind λ b=>(dQt z).bind λ l=>if b<w.1/\l.length=w.1 then some (.bl (decide (l=meL w b))) else none
 | _=>none
def oE:List Dt->iA Dt:=yu λ x y=>(ju x).bind λ a=>(ju y).bind λ b=>if a≠b then some .non else none
def lD:List Dt->iA Dt
 | [x,y,z]=>(dW x).bind λ w=>(ju y).bind λ a=>(ju z).bind λ b=>if a<w.1/\b<w.1/\a≠b then some .non else none
 | _=>none
def lQ:List Dt->iA Dt
 | [x,y,z]=>(dW x).bind λ w=>(ju y).bind λ a=>(ju z).bind λ b=>if a<w.1/\b<w.1/\a≠b then some (.tup ((ahL w a b).map iO)) else none
 | _=>none
def BO:DE->iA RD:=(jL (nU (iT 1 l9 (iL (iN 0) iQ))) (jL (nU (iT 2 j6 (iL (iN 0) (iL (iN 1) iQ)))) (jJ (iT 3 lg (iL (iN 0) (iL (Ha (iN 1) (gC (.int 0))) (iL (iT 1 rR (iL (iN 0) iQ)) iQ)))))))
abbrev NA:List Str:=["web","goal"]
def qV:DE->iA RD:=(ng (gB (iY kx (iN 0) (iN 1))) sM kT)
abbrev D4:List Str:=["a","b"]
def pU:DE->iA RD:=(jL (nU (iT 1 l9 (iL (iN 0) iQ))) (jL (nU (iT 2 j6 (iL (iN 0) (iL (iN 1) iQ)))) (jL (nU (iT 2 j6 (iL (iN 0) (iL (iN 2) iQ)))) (nU (iT 2 oE (iL (iN 1) (iL (iN 2) iQ)))))))
abbrev BP:List Str:=["web","a","b"]
def nv:DE->iA RD:=(jJ (iT 3 lg (iL (iN 0) (iL (Ld (iN 1) (gC (.int 1)) (iN 2) (gC (.int 0))) (iL (iY MO (C7 (iL (gC (.int 0)) iQ)) (iY dIx (iN 0) (gC (.int 0)))) iQ)))))
abbrev xb:List Str:=["web","one","other"]
theorem wk (b:Nat):gvD [((b:Int),0)]=gvM b:=by
 funext i;unfold gvD gvM mH;by_cases c:i=b
 ·subst c;simp
 ·have:¬ ((b:Int)=(i:Int)):=by lia
  simp[this,c]
theorem Hc {a b:Nat}(ne:a≠b):gvD [((a:Int),1),((b:Int),0)]=gvA a b:=by
 funext i;unfold gvD gvA mH;by_cases c:i=a
 ·subst c;simp
 ·have h1:¬ ((a:Int)=(i:Int)):=by lia
  by_cases c2:i=b
  ·subst c2;simp[h1,c]
  ·have h2:¬ ((b:Int)=(i:Int)):=by lia
   simp[h1,h2,c,c2]
theorem Good.QS {w:Web}(g:Good w){i:Nat}(h:w.1<=i):dg w i=0:=by
 unfold dg;cases e:nb w.2 i with
 | nil=>rfl
 | cons x r =>have:=g.jB (p:=i) (j:=x) (by rw[e];exact ar);lia
theorem Good.Hd {w:Web}(g:Good w):adD ((r_ w).map λ(k:Nat)=>(k:Int))=λ i=>(dg w i:Int):=by
 funext i;unfold adD;rw[au,ax];by_cases h:i<w.1
 ·unfold r_;rw[ax,a_ h];rfl
 ·have:(r_ w)[i]?=none:=bq (by rw[DK];lia);rw[this,g.QS (by lia)];rfl
theorem D5 (n:Nat):adD (List.replicate n 0)=λ _=>0:=by funext i;unfold adD;rw[au,fF];split<;>rfl
theorem Good.S_ {w:Web}(g:Good w):rR [i8 w]=some (.lst (((r_ w).map λ(k:Nat)=>(k:Int)).map .int)):=by show(dW (i8 w)).map (λ w=>Dt.lst ((r_ w).map iM))=_;rw[kf g,bP,aH];rfl
theorem Good.BQ {w:Web}(g:Good w){b:Nat}(hb:b<w.1):wj w [((b:Int),0)] ((r_ w).map λ(k:Nat)=>(k:Int)):=by
 refine⟨by rw[ag,DK],by rw[wk];exact oC hb,λ i v h=>?_,λ a ha=>?_⟩
 ·rw[wk]at h
  unfold gvM at h;by_cases c:i=b
  ·rw[af c]at h;cases h;decide
  ·rw[ah c]at h;cases h
 ·obtain⟨k,hk,rfl⟩:=aD.mp ha;obtain⟨p,_,rfl⟩:=aD.mp hk;have:=g.qU p;unfold dg at this;lia
theorem Good.Lg {w:Web}(g:Good w){a b:Nat}(ha:a<w.1)(ne:a≠b):wj w [((a:Int),1),((b:Int),0)] (List.replicate w.1 0):=by
 refine⟨by simp,by rw[Hc ne];exact xt ha,λ i v h=>?_,λ x hx=>?_⟩
 ·rw[Hc ne]at h
  unfold gvA at h;by_cases c:i=a
  ·rw[af c]at h;cases h;decide
  ·rw[ah c]at h
   by_cases c2:i=b
   ·rw[af c2]at h;cases h;decide
   ·rw[ah c2]at h;cases h
 ·rw[List.eq_of_mem_replicate hx];decide
theorem Good.OT {w:Web}(g:Good w){b:Nat}(hb:b<w.1)(i:Nat):bt (meQ w b i) 200:=by have:=(g.BN (gv:=gvD [((b:Int),0)]) (ad:=adD ((r_ w).map λ(k:Nat)=>(k:Int))) (g.BQ hb).has (g.BQ hb).vs (rY (g.BQ hb).ads)).2.2 i;rw[wk,g.Hd]at this;exact this
theorem Ta {w:Web}(g:Good w){b:Nat}(hb:b<w.1):uJ [i8 w,iM b]=some (.tup ((meL w b).map iO)):=by show(dW (i8 w)).bind (λ w=>(ju (iM b)).bind λ b=>if b<w.1 then some (Dt.tup ((meL w b).map iO)) else none)=_;rw[kf g,jk,ae,ae,af hb]
theorem Lh:Hg 2 NA uJ BO:=by
 intro ds d hl h;obtain⟨x,y,rfl,h⟩:=pd (show yu _ ds=_ from h);obtain⟨w,e1,h⟩:=iP h;obtain⟨b,e3,h⟩:=iP h;by_cases hb:b<w.1
 ·rw[af hb]at h
  cases h;obtain⟨rfl,g⟩:=kd e1;rw[jo e3];refine⟨.rt (.tup ((meL w b).map iO)),?_,rfl⟩;have c1:=BB e1;have c2:=ph e1 hb;have bo:=FG g (g.BQ hb);rw[wk,g.Hd]at bo;have er:(List.range w.1).map (λ i=>iO (sol w (gvM b) (λ i=>(dg w i:Int)) i))=(meL w b).map iO:=by unfold meL;rw[aH];rfl
  rw[er]at bo;have fd:=g.S_;have pr:Lc (iM b) (.int 0)=some (.dct [((b:Int),0)]):=rfl;generalize (meL w b).map iO=res at *;generalize ((r_ w).map λ(k:Nat)=>(k:Int)).map Dt.int=dd at *;generalize Dt.dct [((b:Int),0)]=kk at *;generalize i8 w=ww at *;generalize iM b=nb at *;simp[BO,c1,c2,fd,pr,bo]
 ·rw[ah hb]at h;cases h
theorem NB (w:Web)(b:Nat):(meL w b).length=w.1:=by simp[meL]
theorem He {x:Rat}(h:0<x):iO x⁻¹=.tup [.int x.den,.int x.num]:=by
 have hn:0<x.num:=by
  have:=Rat.num_nonneg.mpr (show(0:Rat)<=x by grind);have ne:x.num≠0:=λ z=>by rw[Rat.num_eq_zero]at z;grind
  lia
 unfold iO;rw[Rat.inv_def];have h2:x.num.natAbs=x.num:=by lia
 have e:=yw (a:=(x.den:Int)) (b:=x.num) hn (by rw[Int.gcd_comm];simpa [Int.gcd,Nat.Coprime] using x.reduced);rw[e.1,e.2]
theorem BR:Hg 2 D4 oE qV:=by
 intro ds d hl h;obtain⟨x,y,rfl,h⟩:=pd (show yu _ ds=_ from h);obtain⟨a,e1,h⟩:=iP h;obtain⟨b,e2,h⟩:=iP h;rw[jo e1,jo e2];by_cases hc:a≠b
 ·rw[af hc]at h
  cases h;have:kx (iM a) (iM b)=some (.bl false):=by
   show some (Dt.bl ((a:Int)==(b:Int)))=_;have:((a:Int)==(b:Int))=false:=by simp;lia
   rw[this]
  generalize iM a=na at *;generalize iM b=nb at *;refine⟨.nx [some na,some nb],?_,rfl⟩;simp[qV,this]
 ·rw[ah hc]at h;cases h
theorem NC {a b:Nat}(h:a≠b):oE [iM a,iM b]=some .non:=by show(ju (iM a)).bind (λ a=>(ju (iM b)).bind λ b=>if a≠b then some Dt.non else none)=_;rw[jk,jk,ae,ae,af h]
theorem z9:Hg 3 BP lD pU:=by
 intro ds d hl h;match ds,h with
 | [x,y,z],h =>
  obtain⟨w,e1,h⟩:=iP (show(dW x).bind _=_ from h);obtain⟨a,e2,h⟩:=iP h;obtain⟨b,e3,h⟩:=iP h;by_cases hc:a<w.1/\b<w.1/\a≠b
  ·rw[af hc]at h;cases h;obtain⟨rfl,g⟩:=kd e1;rw[jo e2,jo e3];have c1:=BB e1;have c2:=ph e1 hc.1;have c3:=ph e1 hc.2.1;have c4:=NC hc.2.2;generalize i8 w=ww at *;generalize iM a=na at *;generalize iM b=nb at *;refine⟨.nx [some ww,some na,some nb],?_,rfl⟩;simp[pU,c1,c2,c3,c4]
  ·rw[ah hc]at h;cases h
theorem vO:Hg 3 xb lQ nv:=by
 intro ds d hl h;match ds,h with
 | [x,y,z],h =>
  obtain⟨w,e1,h⟩:=iP (show(dW x).bind _=_ from h);obtain⟨a,e2,h⟩:=iP h;obtain⟨b,e3,h⟩:=iP h;by_cases hc:a<w.1/\b<w.1/\a≠b
  ·rw[af hc]at h
   cases h;obtain⟨rfl,g⟩:=kd e1;rw[jo e2,jo e3];refine⟨.rt (.tup ((ahL w a b).map iO)),?_,rfl⟩;have h8:=g.km;have bo:=FG g (g.Lg hc.1 hc.2.2);rw[Hc hc.2.2,D5]at bo;have er:(List.range w.1).map (λ i=>iO (sol w (gvA a b) (λ _=>0) i))=(ahL w a b).map iO:=by unfold ahL;rw[aH];rfl
   rw[er,List.map_replicate]at bo;have pr:Nw (iM a) (.int 1) (iM b) (.int 0)=some (.dct [((a:Int),1),((b:Int),0)]):=by show(if (a:Int)=(b:Int) then none else some (Dt.dct [((a:Int),1),((b:Int),0)]))=_;rw[ah (by lia)]
   have ix:dIx (i8 w) (.int 0)=some (iM w.1):=rfl;have rp:MO (.lst [.int 0]) (iM w.1)=some (.lst (List.replicate w.1 (.int 0))):=by show(if 0<=(w.1:Int)/\(w.1:Int)<=1000 then some (Dt.lst (List.replicate (w.1:Int).toNat (.int 0))) else none)=_;rw[af (by lia),bQ]
   generalize (ahL w a b).map iO=res at *;generalize List.replicate w.1 (Dt.int 0)=dd at *;generalize Dt.dct [((a:Int),1),((b:Int),0)]=kk at *;generalize i8 w=ww at *;generalize iM w.1=nw at *;generalize iM a=na at *;generalize iM b=nb at *;simp[nv,pr,ix,rp,bo]
  ·rw[ah hc]at h;cases h
theorem OU {w:Web}{b i:Nat}(hi:i<w.1):dIx (.tup ((meL w b).map iO)) (iM i)=some (iO (meQ w b i)):=by
 have:=getD_at (l:=meL w b) (j:=i) (by rw[NB];exact hi);have e:(meL w b).getD i 0=meQ w b i:=by unfold meL;rw[au,ax,a_ hi];rfl
 rw[e]at this;exact this
theorem QT {x y:Rat}{e f:Nat}(hx:bt x e)(hy:bt y f)(he:e<=1900)(hf:f<=1900):qM [iO x,iO y]=some (iO (x+y)):=by show(dQ (iO x)).bind (λ a=>(dQ (iO y)).bind λ b=>if sm a/\sm b then some (iO (a+b)) else none)=_;rw[nh,nh,ae,ae,af ⟨OS hx he,OS hy hf⟩]
theorem BS {l:List Rat}{q:Rat}(h:vF 0 l=some q):oz [.lst (l.map iO)]=some (iO q):=by show(dQs (l.map iO)).bind (λ l=>(vF 0 l).map iO)=_;rw[Bt,ae,h];rfl
def ze (i j k:Nat):Dt->DE->iA DE:=λ d δ=>match d with
 | .tup [.tup [x,y],z]=>some (((δ.set i (some x)).set j (some y)).set k (some z))
 | _=>none
@[simp] theorem Ux {δ:DE} (i j k:Nat) (x y z:Dt):ze i j k (.tup [.tup [x,y],z]) δ=some (((δ.set i (some x)).set j (some y)).set k (some z)):=rfl
theorem D6 {K:iF}{i j k:Nat}:GD K (wW K 2 (lG (wW K 2 (lG (jt i) (lG (jt j) wV))) (lG (jt k) wV))) (ze i j k):=λ H x d σ δ δ' Q h S e q=>by
 unfold ze at e;split at e
 ·cases e
  obtain⟨a,xs,rfl,hq,is⟩:=h.jy;cases is with
  | cons i1 is =>
   cases is with
   | cons i2 is =>
    cases is;obtain⟨b,ys,rfl,hq2,js⟩:=i1.jy;cases js with
    | cons j1 js =>
     cases js with
     | cons j2 js =>cases js;exact⟨a,_,rfl,hq,rfl,_,_,rfl,b,_,rfl,hq2,rfl,_,_,rfl,_,_,rfl,rfl,_,_,rfl,rfl,q _ (((S.set j1).set j2).set i2)⟩
 ·cases e
theorem D7 {K:iF}{n i j k:Nat}(hi:i<n)(hj:j<n)(hk:k<n):C2 n (wW K 2 (lG (wW K 2 (lG (jt i) (lG (jt j) wV))) (lG (jt k) wV))):=λ x σ H Q hz=>by obtain⟨a,xs,e,h1,h2,v,r,e2,b,ys,e3,h3,h4,v1,r1,e4,v2,r2,e5,e6,v3,r3,e7,e8,q⟩:=hz;refine⟨a,xs,e,h1,h2,v,r,e2,b,ys,e3,h3,h4,v1,r1,e4,v2,r2,e5,e6,v3,r3,e7,e8,λ m hm=>?_,by simp,q⟩;rw[bM (by lia),bM (by lia),bM (by lia)]
def cb (x:Rat)(D N:Nat):Prop:=∃ n:Int,x=(n:Rat)*((D:Rat))⁻¹/\n.natAbs<=N
theorem Li {x y:Rat}{D N M:Nat}(h:cb x D N)(h':cb y D M):cb (x+y) D (N+M):=by obtain⟨n,e,hn⟩:=h;obtain⟨m,e',hm⟩:=h';exact⟨n+m,by rw[e,e',fe];grind,bf (Int.natAbs_add_le _ _) (by lia)⟩
theorem Lj {x y:Rat}{D N M:Nat}(h:cb x D N)(h':cb y D M):cb (x-y) D (N+M):=by obtain⟨n,e,hn⟩:=h;obtain⟨m,e',hm⟩:=h';exact⟨n-m,by rw[e,e',fc];grind,by lia⟩
theorem BU {x y:Rat}{D E N M:Nat}(h:cb x D N)(h':cb y E M):cb (x*y) (D*E) (N*M):=by obtain⟨n,e,hn⟩:=h;obtain⟨m,e',hm⟩:=h';refine⟨n*m,?_,by rw[fO];exact cE hn hm⟩;rw[e,e',cR,hV,Rat.inv_mul_rev];grind
theorem pV {x:Rat}{D N M:Nat}(h:cb x D N)(l:N<=M):cb x D M:=by obtain⟨n,e,hn⟩:=h;exact⟨n,e,by lia⟩
theorem ND (D:Nat):cb 0 D 0:=⟨0,by show(0:Rat)=0*_;grind,by decide⟩
theorem Hf {x:Rat}{D N:Nat}(E:Nat)(hE:0<E)(h:cb x D N):cb x (D*E) (N*E):=by
 obtain⟨n,e,hn⟩:=h;have q:(E:Rat)≠0:=by have:(0:Rat)<(E:Rat):=eE.mpr hE;grind
 have cc:=bZ _ q;refine⟨n*E,?_,by rw[fO,Int.natAbs_natCast];exact cE hn (ak _)⟩;rw[e,cR,hV,Rat.inv_mul_rev,cf];grind
theorem sC {x:Rat}{D N:Nat}(h:cb x D N)(h0:0<D)(hD:D<2 ^ 1900)(hN:N<2 ^ 1900):sm x:=by
 obtain⟨n,e,hn⟩:=h;have e2:x=Rat.divInt n D:=by rw[e,fg,gf,cf]
 obtain⟨d1,d2⟩:=OR (a:=n) (b:=(D:Int)) (by lia);rw[e2];exact⟨by lia,by lia⟩
theorem Hh (x:Rat):cb x x.den x.num.natAbs:=⟨x.num,by
 have e:x=Rat.divInt x.num x.den:=by rw[cw,dO]
 have e2:Rat.divInt x.num x.den=(x.num:Rat)*((x.den:Rat))⁻¹:=by rw[fg,gf,cf]
 exact e.trans e2,ak _⟩
theorem Lk {D N:Nat}(h0:0<D)(hD:D<2 ^ 1900):∀ (l:List Rat) (a:Rat) (M:Nat),cb a D M->(∀ x∈l,cb x D N)->N<2 ^ 1900->M+l.length*N<2 ^ 1900->vF a l=some (a+l.sum)/\cb (a+l.sum) D (M+l.length*N)
 | [],a,M,h,_,_,hl=>by
  have:a+([]:List Rat).sum=a:=by show a+0=a;grind
  rw[this];exact⟨rfl,pV h (by simp)⟩
 | x::r,a,M,h,hx,hN,hl=>by
  rw[aQ,g9]at hl;have hxx:=hx x ar;obtain⟨i1,i2⟩:=Lk h0 hD r (a+x) (M+N) (Li h hxx) (λ y hy=>hx y (av _ hy)) hN (by lia);have ea:a+(x::r).sum=a+x+r.sum:=by rw[aP];grind
  rw[ea];refine⟨?_,pV i2 (by rw[aQ,g9];lia)⟩;show(if sm a/\sm x then vF (a+x) r else none)=_;rw[af ⟨sC h h0 hD (by lia),sC hxx h0 hD hN⟩];exact i1
theorem uK {D N:Nat}{l:List Rat}(h0:0<D)(hD:D<2 ^ 1900)(h:∀ x∈l,cb x D N)(hN:N<2 ^ 1900)(hl:l.length*N<2 ^ 1900):vF 0 l=some l.sum/\cb l.sum D (l.length*N):=by
 have:=Lk h0 hD l 0 0 (ND D) h hN (by lia);have e:0+l.sum=l.sum:=by grind
 rw[e,Nat.zero_add]at this;exact this
def mR:List Dt->iA Dt
 | [x,y]=>(dQ x).bind λ a=>(dQ y).bind λ b=>if sm a/\sm b then some (iO (a-b)) else none
 | _=>none
def BV:DE->iA RD:=(jJ (iT 2 jT (iL (iY (dI (·-·)) (iY mL (iY dIx (iN 0) (gC (.int 0))) (iY dIx (iN 1) (gC (.int 1)))) (iY mL (iY dIx (iN 1) (gC (.int 0))) (iY dIx (iN 0) (gC (.int 1))))) (iL (iY mL (iY dIx (iN 0) (gC (.int 1))) (iY dIx (iN 1) (gC (.int 1)))) iQ))))
abbrev NF:List Str:=["one","other"]
theorem FI (a b:Rat):Rat.divInt (a.num*b.den-b.num*a.den) ((a.den:Int)*b.den)=a-b:=by have h:=Rat.divInt_sub_divInt a.num b.num (d₁:=a.den) (d₂:=b.den) (by have:=a.den_pos;lia) (by have:=b.den_pos;lia);rw[<-h,cw,cw,dO,dO]
theorem D8:Hg 2 NF mR BV:=by
 intro ds d hl h;match ds,h with
 | [x,y],h =>obtain⟨a,b,rfl,rfl,ha,hb,rfl⟩:=KA (f:=(·-·)) h;have h1:0<((a.den:Int)*b.den):=Int.mul_pos (by have:=a.den_pos;lia) (by have:=b.den_pos;lia);have h2:bd ((a.den:Int)*b.den):=Fm (by simpa using ha.2) (by simpa using hb.2);have a1:=nC ha.1;have b1:=nC hb.1;have a2:bd (a.den:Int):=nC (by simpa using ha.2);have b2:bd (b.den:Int):=nC (by simpa using hb.2);refine⟨.rt (iO (a-b)),?_,rfl⟩;rw[<-FI];simp only[BV,iO,jJ,iT,iL,iY,iN,gC,iQ,mK,aq,dH,aQ,cn,d3,bE,bh,dB,ae,dIx,MY,MZ,dIC,dI,a1,b1,a2,b2,and_self,cM,bP,nJ,h1,h2]
theorem BW {x y:Rat}(hx:sm x)(hy:sm y):mR [iO x,iO y]=some (iO (x-y)):=by show(dQ (iO x)).bind (λ a=>(dQ (iO y)).bind λ b=>if sm a/\sm b then some (iO (a-b)) else none)=_;rw[nh,nh,ae,ae,af ⟨hx,hy⟩]
theorem zh {x y:Rat}(hx:sm x)(hy:sm y):my [iO x,iO y]=some (iO (x*y)):=by show(dQ (iO x)).bind (λ a=>(dQ (iO y)).bind λ b=>if sm a/\sm b then some (iO (a*b)) else none)=_;rw[nh,nh,ae,ae,af ⟨hx,hy⟩]
theorem Good.Ll {w:Web}(g:Good w){gv:Nat->iA Int}{ad:Nat->Int}(hg:∃ p,p<w.1/\gv p≠none)(hv:∀ i v,gv i=some v->v.natAbs<=1000)(ha:∀ i,(ad i).natAbs<=1000) :
  ∃ D:Nat,0<D/\D<2 ^ 200/\∀ i,cb (sol w gv ad i) D (2 ^ 200):=by
 have mm:=g.mm (ad:=ad) hg;have ab:=λ k (hk:k<=w.1) i j=>Dt0.Oa g.km mm.ne (g.AN hv ha) hk i j;have pos:0<Dt0.fm (eqA w gv ad) w.1:=by have h1:=mm.EC w.1 (ak _);rw[<-(Dt0.Ae mm.ne w.1 (ak _)).2.1]at h1;exact Rat.intCast_pos.mp h1
 obtain⟨so,eq,_⟩:=g.BN hg hv ha;refine⟨(Dt0.fm (eqA w gv ad) w.1).natAbs,by lia,(ab w.1 (ak _) 0 0).2,λ i=>⟨Dt0.Tz (eqA w gv ad) w.1 i w.1,?_,fq (ab w.1 (ak _) i w.1).1⟩⟩;rw[<-eq i,fg,gf];have e:((Dt0.fm (eqA w gv ad) w.1:Int):Rat)=(((Dt0.fm (eqA w gv ad) w.1).natAbs:Nat):Rat):=by rw[<-cf];congr 1;lia
 rw[e]
def CbL (l:List Rat):Prop:=∃ D N:Nat,0<D/\D*D<2 ^ 1900/\0<N/\1000*(N*N)<2 ^ 1900/\∀ x∈l,cb x D N
structure mz (w:Web)(a b:Nat)(l:List Rat):Prop where
 len:l.length=w.2.length
 cbl:CbL l
 str:∀ p,p<w.1->p≠b->dvg (w.2.zip l) p=if p=a then 1 else 0
structure nX (w:Web)(a b:Nat)(l:List Rat):Prop where
 len:l.length=w.1
 cbl:CbL l
 la:l.getD a 0=1
 lb:l.getD b 0=0
def sqL (l:List Rat):Rat:=(l.map λ x=>x*x).sum
def flL (w:Web)(l:List Rat):List Rat:=w.2.map λ t=>l.getD t.1 0-l.getD t.2 0
def htL (w:Web)(a b:Nat):List Rat:=(List.range w.1).map (htQ w a b)
def evL (w:Web)(a b:Nat):List Rat:=w.2.map λ t=>htQ w a b t.1-htQ w a b t.2
open Classical in
def kK:List Dt->iA Dt
 | [x,y,z]=>(dW x).bind λ w=>(dQt y).bind λ l=>(ju z).bind λ p=>if l.length=w.2.length/\CbL l then some (iO (dvg (w.2.zip l) p)) else none
 | _=>none
open Classical in
def kE:List Dt->iA Dt
 | [x,y,z,u]=>(dW x).bind λ w=>(ju y).bind λ a=>(ju z).bind λ b=>(dQt u).bind λ l=>if a<w.1/\b<w.1/\a≠b/\mz w a b l then some (.bl true) else none
 | _=>none
open Classical in
def qW:List Dt->iA Dt
 | [x,y,z,u]=>(dW x).bind λ w=>(ju y).bind λ a=>(ju z).bind λ b=>(dQt u).bind λ l=>if a<w.1/\b<w.1/\a≠b/\mz w a b l then some (iO (sqL l)) else none
 | _=>none
def nP:List Dt->iA Dt
 | [x,y,z]=>(dW x).bind λ w=>(ju y).bind λ a=>(ju z).bind λ b=>if a<w.1/\b<w.1/\a≠b then some (.tup ((htL w a b).map iO)) else none
 | _=>none
def vP:List Dt->iA Dt
 | [x,y,z]=>(dW x).bind λ w=>(ju y).bind λ a=>(ju z).bind λ b=>if a<w.1/\b<w.1/\a≠b then some (.tup ((evL w a b).map iO)) else none
 | _=>none
def kn:List Dt->iA Dt
 | [x,y,z]=>(dW x).bind λ w=>(ju y).bind λ a=>(ju z).bind λ b=>if a<w.1/\b<w.1/\a≠b then some (iO (hiQ w a b)) else none
 | _=>none
def pW:DE->iA RD:=(jL (kZ 3 (gLC ["lesser","greater","much"] [2] (Fg true true (iL (iY dIx (iN 0) (gC (.int 1))) (iL (iN 1) iQ))) (ze 0 1 2) (gB (iY kx (iN 0) (iN 3))) (iN 2))) (jL (kZ 4 (gLC ["lesser","greater","much"] [2] (Fg true true (iL (iY dIx (iN 0) (gC (.int 1))) (iL (iN 1) iQ))) (ze 0 1 2) (gB (iY kx (iN 1) (iN 3))) (iN 2))) (jJ (iT 2 mR (iL (iT 1 oz (iL (iN 3) iQ)) (iL (iT 1 oz (iL (iN 4) iQ)) iQ))))))
abbrev BX:List Str:=["web","stream","place","goes","comes"]
def qX:DE->iA RD:=(jL (nU (iT 3 lD (iL (iN 0) (iL (iN 1) (iL (iN 2) iQ))))) (jL (ue (kY 4 5) (iN 0)) (jL (ng (kX (gTr (iT 2 kM (iL (iN 3) (iL (jF om (iL (iN 5) iQ)) iQ))))) (jJ (gC (.bl false))) kT) (jL (kZ 6 (gLC ["place"] [0,3] (qL (iL (iN 4) iQ)) (ggN 0) kA (iT 3 kK (iL (iN 1) (iL (iN 2) (iL (iN 0) iQ)))))) (jJ (jF Dn (iL (gLC ["place"] [6,1,2] (qL (iL (iN 4) iQ)) (ggN 0) (gB (iY mv (iN 0) (iN 3))) (iY kx (iY dIx (iN 1) (iN 0)) (gIf (gB (iY kx (iN 0) (iN 2))) (gC MV) (gC AE)))) iQ)))))))
abbrev D9:List Str:=["web","a","b","thing","many","ties","more"]
def FJ:DE->iA RD:=(jL (ng (kX (gTr (iT 4 kE (iL (iN 0) (iL (iN 1) (iL (iN 2) (iL (iN 3) iQ))))))) sM kT) (jJ (iT 1 oz (iL (gLC ["much"] [] (gI lZ (iN 3)) (ggN 0) kA (iT 2 my (iL (iN 0) (iL (iN 0) iQ)))) iQ))))
abbrev QU:List Str:=["web","a","b","stream"]
def vQ:DE->iA RD:=(jL (nU (iT 3 lD (iL (iN 0) (iL (iN 1) (iL (iN 2) iQ))))) (jJ (iT 3 lg (iL (iN 0) (iL (Ha (iN 2) (gC (.int 0))) (iL (gLC ["place"] [1] (qL (iL (iY dIx (iN 0) (gC (.int 0))) iQ)) (ggN 0) kA (gIf (gB (iY kx (iN 0) (iN 1))) (gC (.int 1)) (gC (.int 0)))) iQ))))))
abbrev IL:List Str:=["web","a","b"]
def FK:DE->iA RD:=(jL (kZ 3 (iT 3 nP (iL (iN 0) (iL (iN 1) (iL (iN 2) iQ))))) (jJ (jF pN (iL (gLC ["lesser","greater"] [3] (gI lZ (iY dIx (iN 0) (gC (.int 1)))) (kY 0 1) kA (iT 2 mR (iL (iY dIx (iN 2) (iN 0)) (iL (iY dIx (iN 2) (iN 1)) iQ)))) iQ))))
abbrev QV:List Str:=["web","a","b","high"]
def qY:DE->iA RD:=(jL (kZ 3 (iT 3 nP (iL (iN 0) (iL (iN 1) (iL (iN 2) iQ))))) (jJ (iY dIx (iN 3) (iN 1))))
abbrev D_:List Str:=["web","a","b","high"]
theorem Hi {l:List Rat}(h:CbL l):∃ D N:Nat,0<D/\D<2 ^ 1900/\D*D<2 ^ 1900/\N<2 ^ 1900/\1000*N<2 ^ 1900/\1000*(N*N)<2 ^ 1900/\∀ x∈l,cb x D N:=by obtain⟨D,N,h1,h2,h3,h4,h5⟩:=h;have d1:D<=D*D:=e_ D h1;have n1:N<=N*N:=e_ N h3;exact⟨D,N,h1,by lia,h2,by lia,by lia,h4,h5⟩
theorem Hj {l l':List Rat}(h:CbL l)(sub:∀ x∈l',x∈l)(len:l'.length<=30):vF 0 l'=some l'.sum/\sm l'.sum:=by obtain⟨D,N,h1,h2,h3,h4,h5,h6,h7⟩:=Hi h;have hl:l'.length*N<=30*N:=eO N len;obtain⟨t1,t2⟩:=uK h1 h2 (λ x hx=>h7 x (sub x hx)) h4 (by lia);exact⟨t1,sC t2 h1 h2 (by lia)⟩
theorem CbL.sm {l:List Rat}(h:CbL l):∀ x∈l,L2.sm x:=λ x hx=>by obtain⟨D,N,h1,h2,h3,h4,h5,h6,h7⟩:=Hi h;exact sC (h7 x hx) h1 h2 h4
theorem CbL.sq {l:List Rat}(h:CbL l)(len:l.length<=30):vF 0 (l.map λ x=>x*x)=some (sqL l):=by obtain⟨D,N,h1,h2,h3,h4,h5,h6,h7⟩:=Hi h;have hl:(l.map λ x=>x*x).length*(N*N)<=30*(N*N):=eO _ (by rw[ag];exact len);exact(uK (fk h1 h1) h3 (λ x hx=>by obtain⟨y,hy,rfl⟩:=aD.mp hx;exact BU (h7 y hy) (h7 y hy)) (by lia) (by lia)).1
theorem Good.sD {w:Web}(g:Good w):w.2.length<=30:=by have:=g.len;lia
theorem Lm (ts:iI)(l:List Rat):Fd true true [kc ts,.tup (l.map iO)]=some ((ts.zip l).map λ z=>.tup [.tup [iM z.1.1,iM z.1.2],iO z.2]):=by show some (((ts.map jD).zip (l.map iO)).map λ(p,q)=>Dt.tup [p,q])=_;rw[List.zip_map,aH];rfl
open Classical in
theorem z_:Hg 3 BX kK pW:=by
 intro ds d hl h;match ds,h with
 | [x,y,z],h =>
  have h:(dW x).bind (λ w=>(dQt y).bind λ l=>(ju z).bind λ p=>if l.length=w.2.length/\CbL l then some (iO (dvg (w.2.zip l) p)) else none)=some d:=by unfold kK at h;exact h
  obtain⟨w,e1,h1⟩:=iP h;obtain⟨l,e2,h2⟩:=iP h1;obtain⟨p,e3,h3⟩:=iP h2;by_cases hc:l.length=w.2.length/\CbL l
  ·rw[af hc]at h3
   cases h3;obtain⟨rfl,g⟩:=kd e1;rw[nF e2,jo e3];refine⟨.rt (iO (dvg (w.2.zip l) p)),?_,rfl⟩;have l30:=g.sD;have ix:dIx (i8 w) (.int 1)=some (kc w.2):=rfl;have zp:=Lm w.2 l;have lz:(w.2.zip l).length<=30:=by rw[fA];lia
   have insnd:∀ (q:(Nat×Nat)×Rat->Bool) x,x∈((w.2.zip l).filter q).map (·.2)->x∈l:=λ q x hx=>by obtain⟨z,hz,rfl⟩:=aD.mp hx;exact(eh (aY.mp hz).1).2
   have lq:∀ (q:(Nat×Nat)×Rat->Bool),(((w.2.zip l).filter q).map (·.2)).length<=30:=λ q=>by rw[ag];exact bf (fS _ _) lz
   obtain⟨a1,a2⟩:=Hj hc.2 (insnd λ z=>z.1.1==p) (lq _);obtain⟨b1,b2⟩:=Hj hc.2 (insnd λ z=>z.1.2==p) (lq _);have ta:=BS a1;have tb:=BS b1;have mi:=BW a2 b2;have lc1:=kl (enc:=λ z:(Nat×Nat)×Rat=>Dt.tup [.tup [iM z.1.1,iM z.1.2],iO z.2]) (gg:=ze 0 1 2) (gt:=gB (iY kx (iN 0) (iN 3))) (ge:=iN 2) (δc:=[none,none,none,some (iM p)]) (δa:=λ z=>[some (iM z.1.1),some (iM z.1.2),some (iO z.2),some (iM p)]) (p:=λ z=>z.1.1==p) (enc':=λ z=>iO z.2) (w.2.zip l) λ z _=>⟨rfl,by
    have:kx (iM z.1.1) (iM p)=some (.bl (z.1.1==p)):=by show some (Dt.bl ((z.1.1:Int)==(p:Int)))=_;rw[kN]
    generalize iM z.1.1=n1 at *;generalize iM p=n2 at *;simp[this],λ _=>rfl⟩
   have lc2:=kl (enc:=λ z:(Nat×Nat)×Rat=>Dt.tup [.tup [iM z.1.1,iM z.1.2],iO z.2]) (gg:=ze 0 1 2) (gt:=gB (iY kx (iN 1) (iN 3))) (ge:=iN 2) (δc:=[none,none,none,some (iM p)]) (δa:=λ z=>[some (iM z.1.1),some (iM z.1.2),some (iO z.2),some (iM p)]) (p:=λ z=>z.1.2==p) (enc':=λ z=>iO z.2) (w.2.zip l) λ z _=>⟨rfl,by
    have:kx (iM z.1.2) (iM p)=some (.bl (z.1.2==p)):=by show some (Dt.bl ((z.1.2:Int)==(p:Int)))=_;rw[kN]
    generalize iM z.1.2=n1 at *;generalize iM p=n2 at *;simp[this],λ _=>rfl⟩
   have m1:((w.2.zip l).filter λ z=>z.1.1==p).map (λ z=>iO z.2)=(((w.2.zip l).filter λ z=>z.1.1==p).map (·.2)).map iO:=by rw[aH];rfl
   have m2:((w.2.zip l).filter λ z=>z.1.2==p).map (λ z=>iO z.2)=(((w.2.zip l).filter λ z=>z.1.2==p).map (·.2)).map iO:=by rw[aH];rfl
   rw[m1]at lc1;rw[m2]at lc2;have hn:((w.2.zip l).map λ z=>Dt.tup [.tup [iM z.1.1,iM z.1.2],iO z.2]).length<=1000:=by rw[ag];lia
   have er:iO (dvg (w.2.zip l) p)=iO ((((w.2.zip l).filter λ z=>z.1.1==p).map (·.2)).sum-(((w.2.zip l).filter λ z=>z.1.2==p).map (·.2)).sum):=rfl;rw[er];generalize iO ((((w.2.zip l).filter λ z=>z.1.1==p).map (·.2)).sum-(((w.2.zip l).filter λ z=>z.1.2==p).map (·.2)).sum)=res at *;generalize iO (((w.2.zip l).filter λ z=>z.1.1==p).map (·.2)).sum=s1 at *;generalize iO (((w.2.zip l).filter λ z=>z.1.2==p).map (·.2)).sum=s2 at *;generalize (((w.2.zip l).filter λ z=>z.1.1==p).map (·.2)).map iO=l1 at *;generalize (((w.2.zip l).filter λ z=>z.1.2==p).map (·.2)).map iO=l2 at *;generalize (w.2.zip l).map (λ z=>Dt.tup [.tup [iM z.1.1,iM z.1.2],iO z.2])=zz at *;generalize l.map iO=ll at *;generalize kc w.2=tt at *;generalize i8 w=ww at *;generalize iM p=np at *;simp[pW,ix,zp,lc1,lc2,hn,ta,tb,mi]
  ·rw[ah hc]at h3;cases h3
theorem zi {w:Web}(g:Good w){a b:Nat}(ha:a<w.1)(hb:b<w.1)(ne:a≠b):lD [i8 w,iM a,iM b]=some .non:=by show(dW (i8 w)).bind (λ w=>(ju (iM a)).bind λ a=>(ju (iM b)).bind λ b=>if a<w.1/\b<w.1/\a≠b then some Dt.non else none)=_;rw[kf g,jk,jk,ae,ae,ae,af ⟨ha,hb,ne⟩]
theorem Ln (a b:Nat):kx (iM a) (iM b)=some (.bl (a==b)):=by show some (Dt.bl ((a:Int)==(b:Int)))=_;rw[kN]
theorem QX (a b:Nat):mv (iM a) (iM b)=some (.bl (!(a==b))):=by show some (Dt.bl (!((a:Int)==(b:Int))))=_;rw[kN]
open Classical in
theorem BY:Hg 4 D9 kE qX:=by
 intro ds d hl h;match ds,h with
 | [x,y,z,u],h =>
  have h:(dW x).bind (λ w=>(ju y).bind λ a=>(ju z).bind λ b=>(dQt u).bind λ l=>if a<w.1/\b<w.1/\a≠b/\mz w a b l then some (Dt.bl true) else none)=some d:=by unfold kE at h;exact h
  obtain⟨w,e1,h1⟩:=iP h;obtain⟨a,e2,h2⟩:=iP h1;obtain⟨b,e3,h3⟩:=iP h2;obtain⟨l,e4,h4⟩:=iP h3;by_cases hc:a<w.1/\b<w.1/\a≠b/\mz w a b l
  ·rw[af hc]at h4
   cases h4;obtain⟨rfl,g⟩:=kd e1;rw[nF e4,jo e2,jo e3];obtain⟨ha,hb,ne,sp⟩:=hc;refine⟨.rt (.bl true),?_,rfl⟩;have h8:=g.km;have l30:=g.sD;have c1:=zi g ha hb ne;have c2:=KJ sp.len (by lia);have ln:om [kc w.2]=some (iM w.2.length):=by show some (Dt.int ((w.2.map jD).length:Int))=_;rw[ag]
   have hr:yo [iM w.1]=some ((List.range w.1).map iM):=nW (n:=w.1) (by lia);have lc1:=jZ (enc:=iM) (gg:=ggN 0) (ge:=iT 3 kK (iL (iN 1) (iL (iN 2) (iL (iN 0) iQ)))) (δc:=[none,some (i8 w),some (.tup (l.map iO))]) (δa:=λ p=>[some (iM p),some (i8 w),some (.tup (l.map iO))]) (enc':=λ p=>iO (dvg (w.2.zip l) p)) (List.range w.1) λ p _=>⟨rfl,by
    have mg:kK [i8 w,.tup (l.map iO),iM p]=some (iO (dvg (w.2.zip l) p)):=by unfold kK;show(dW (i8 w)).bind (λ w=>(dQt (.tup (l.map iO))).bind λ l=>(ju (iM p)).bind λ p=>if l.length=w.2.length/\CbL l then some (iO (dvg (w.2.zip l) p)) else none)=_;rw[kf g,nG,jk,ae,ae,ae,af ⟨sp.len,sp.cbl⟩]
    generalize iO (dvg (w.2.zip l) p)=res at *;generalize l.map iO=ll at *;generalize i8 w=ww at *;generalize iM p=np at *;simp[mg]⟩
   have at_:∀ p,p<w.1->dIx (.lst ((List.range w.1).map λ p=>iO (dvg (w.2.zip l) p))) (iM p)=some (iO (dvg (w.2.zip l) p)):=λ p hp=>by show atI ((List.range w.1).map λ p=>iO (dvg (w.2.zip l) p)) (p:Int)=_;refine lx ?_;rw[ax,a_ hp];rfl
   have lc2:=kl (enc:=iM) (gg:=ggN 0) (gt:=gB (iY mv (iN 0) (iN 3))) (ge:=iY kx (iY dIx (iN 1) (iN 0)) (gIf (gB (iY kx (iN 0) (iN 2))) (gC MV) (gC AE))) (δc:=[none,some (.lst ((List.range w.1).map λ p=>iO (dvg (w.2.zip l) p))),some (iM a),some (iM b)]) (δa:=λ p=>[some (iM p),some (.lst ((List.range w.1).map λ p=>iO (dvg (w.2.zip l) p))),some (iM a),some (iM b)]) (p:=λ p=>!(p==b)) (enc':=λ _=>.bl true) (List.range w.1) λ p hp=>⟨rfl,by
    have n1:=QX p b;generalize iM p=np at *;generalize iM b=nb at *;simp[n1],λ hpb=>by
    have hp:=aw.mp hp;have st:=sp.str p hp (by simpa using hpb);have ix:=at_ p hp;have q1:=Ln p a;have qq:=Qu (dvg (w.2.zip l) p) (if p=a then 1 else 0);rw[decide_eq_true st]at qq;generalize (List.range w.1).map (λ p=>iO (dvg (w.2.zip l) p))=mm at *;by_cases c:p=a
    ·rw[af c]at qq
     have ck:(p==a)=true:=by simpa using c
     rw[ck]at q1;have qq:kx (iO (dvg (w.2.zip l) p)) (.tup [.int 1,.int 1])=some (.bl true):=qq;generalize iO (dvg (w.2.zip l) p)=ev at *;generalize iM p=np at *;generalize iM a=na at *;simp[ix,q1,qq]
    ·rw[ah c]at qq
     have ck:(p==a)=false:=by simpa using c
     rw[ck]at q1;have qq:kx (iO (dvg (w.2.zip l) p)) (.tup [.int 0,.int 1])=some (.bl true):=qq;generalize iO (dvg (w.2.zip l) p)=ev at *;generalize iM p=np at *;generalize iM a=na at *;simp[ix,q1,qq]⟩
   have al:Dn [.lst (((List.range w.1).filter λ p=>!(p==b)).map λ _=>Dt.bl true)]=some (.bl true):=by
    have:=KD (((List.range w.1).filter λ p=>!(p==b)).map λ _=>true);rw[aH]at this;have e2:(((List.range w.1).filter λ p=>!(p==b)).map λ _=>true).all id=true:=by rw[gH,dz];intro _ _;rfl
    rw[e2]at this;exact this
   have hn:((List.range w.1).map iM).length<=1000:=by simp;lia
   have eW:i8 w=.tup [iM w.1,kc w.2]:=rfl;rw[eW]at c1 lc1 ⊢;generalize ((List.range w.1).filter λ p=>!(p==b)).map (λ _=>Dt.bl true)=bs at *;generalize (List.range w.1).map (λ p=>iO (dvg (w.2.zip l) p))=mm at *;generalize (List.range w.1).map iM=rs at *;generalize l.map iO=ll at *;generalize kc w.2=tt at *;generalize iM w.2.length=nl at *;generalize iM w.1=nw at *;generalize iM a=na at *;generalize iM b=nb at *;simp[qX,c1,ln,c2,hr,lc1,lc2,hn,al]
  ·rw[ah hc]at h4;cases h4
open Classical in
theorem FL {w:Web}(g:Good w){a b:Nat}(ha:a<w.1)(hb:b<w.1)(ne:a≠b){l:List Rat}(sp:mz w a b l):kE [i8 w,iM a,iM b,.tup (l.map iO)]=some (.bl true):=by unfold kE;show(dW (i8 w)).bind (λ w=>(ju (iM a)).bind λ a=>(ju (iM b)).bind λ b=>(dQt (.tup (l.map iO))).bind λ l=>if a<w.1/\b<w.1/\a≠b/\mz w a b l then some (Dt.bl true) else none)=_;rw[kf g,jk,jk,nG,ae,ae,ae,ae,af ⟨ha,hb,ne,sp⟩]
open Classical in
theorem NG:Hg 4 QU qW FJ:=by
 intro ds d hl h;match ds,h with
 | [x,y,z,u],h =>
  have h:(dW x).bind (λ w=>(ju y).bind λ a=>(ju z).bind λ b=>(dQt u).bind λ l=>if a<w.1/\b<w.1/\a≠b/\mz w a b l then some (iO (sqL l)) else none)=some d:=by unfold qW at h;exact h
  obtain⟨w,e1,h1⟩:=iP h;obtain⟨a,e2,h2⟩:=iP h1;obtain⟨b,e3,h3⟩:=iP h2;obtain⟨l,e4,h4⟩:=iP h3;by_cases hc:a<w.1/\b<w.1/\a≠b/\mz w a b l
  ·rw[af hc]at h4
   cases h4;obtain⟨rfl,g⟩:=kd e1;rw[nF e4,jo e2,jo e3];obtain⟨ha,hb,ne,sp⟩:=hc;refine⟨.rt (iO (sqL l)),?_,rfl⟩;have l30:=g.sD;have c1:=FL g ha hb ne sp;have tq:=BS (sp.cbl.sq (by rw[sp.len];lia));have lc:=jZ (enc:=iO) (gg:=ggN 0) (ge:=iT 2 my (iL (iN 0) (iL (iN 0) iQ))) (δc:=[none]) (δa:=λ x=>[some (iO x)]) (enc':=λ x=>iO (x*x)) l λ x hx=>⟨rfl,by have tk:=zh (sp.cbl.sm x hx) (sp.cbl.sm x hx);generalize iO (x*x)=r at *;generalize iO x=e at *;simp[tk]⟩
   have er:l.map (λ x=>iO (x*x))=(l.map λ x=>x*x).map iO:=by rw[aH];rfl
   rw[er]at lc;have hn:(l.map iO).length<=1000:=by rw[ag,sp.len];lia
   generalize (l.map λ x=>x*x).map iO=qs at *;generalize iO (sqL l)=res at *;generalize l.map iO=ll at *;generalize i8 w=ww at *;generalize iM a=na at *;generalize iM b=nb at *;simp[FJ,c1,lc,hn,tq]
  ·rw[ah hc]at h4;cases h4
theorem OV (a n:Nat)(ha:a<n):adD ((List.range n).map λ p=>if p=a then (1:Int) else 0)=adH a:=by
 funext i;unfold adD adH;rw[au,ax];by_cases h:i<n
 ·rw[a_ h];rfl
 ·rw[bq (by simp;lia),ah (by lia)];rfl
theorem Lo {w:Web}{a b:Nat}(hb:b<w.1):wj w [((b:Int),0)] ((List.range w.1).map λ p=>if p=a then (1:Int) else 0):=by
 refine⟨by simp,by rw[wk];exact oC hb,λ i v h=>?_,λ x hx=>?_⟩
 ·rw[wk]at h
  unfold gvM at h;by_cases c:i=b
  ·rw[af c]at h;cases h;decide
  ·rw[ah c]at h;cases h
 ·obtain⟨p,_,rfl⟩:=aD.mp hx
  by_cases c:p=a
  ·rw[af c];decide
  ·rw[ah c];decide
theorem FN:Hg 3 IL nP vQ:=by
 intro ds d hl h;match ds,h with
 | [x,y,z],h =>
  obtain⟨w,e1,h⟩:=iP (show(dW x).bind _=_ from h);obtain⟨a,e2,h⟩:=iP h;obtain⟨b,e3,h⟩:=iP h;by_cases hc:a<w.1/\b<w.1/\a≠b
  ·rw[af hc]at h
   cases h;obtain⟨rfl,g⟩:=kd e1;rw[jo e2,jo e3];refine⟨.rt (.tup ((htL w a b).map iO)),?_,rfl⟩;have h8:=g.km;have c1:=zi g hc.1 hc.2.1 hc.2.2;have bo:=FG g (Lo (a:=a) hc.2.1);rw[wk,OV a w.1 hc.1]at bo;have er:(List.range w.1).map (λ i=>iO (sol w (gvM b) (adH a) i))=(htL w a b).map iO:=by unfold htL;rw[aH];rfl
   rw[er]at bo;have hr:yo [iM w.1]=some ((List.range w.1).map iM):=nW (n:=w.1) (by lia);have ix:dIx (i8 w) (.int 0)=some (iM w.1):=rfl;have lc:=jZ (enc:=iM) (gg:=ggN 0) (ge:=gIf (gB (iY kx (iN 0) (iN 1))) (gC (.int 1)) (gC (.int 0))) (δc:=[none,some (iM a)]) (δa:=λ p=>[some (iM p),some (iM a)]) (enc':=λ p=>.int (if p=a then 1 else 0)) (List.range w.1) λ p _=>⟨rfl,by
    have q:=Ln p a;generalize iM p=np at *;generalize iM a=na at *;by_cases c:p=a
    ·have ck:(p==a)=true:=by simpa using c
     rw[ck]at q;simp[q,c]
    ·have ck:(p==a)=false:=by simpa using c
     rw[ck]at q;simp[q,c]⟩
   have el:(List.range w.1).map (λ p=>Dt.int (if p=a then 1 else 0))=((List.range w.1).map λ p=>if p=a then (1:Int) else 0).map .int:=by rw[aH];rfl
   rw[el]at lc;have pr:Lc (iM b) (.int 0)=some (.dct [((b:Int),0)]):=rfl;have hn:((List.range w.1).map iM).length<=1000:=by simp;lia
   generalize ((List.range w.1).map λ p=>if p=a then (1:Int) else 0).map Dt.int=dd at *;generalize (htL w a b).map iO=res at *;generalize (List.range w.1).map iM=rs at *;generalize Dt.dct [((b:Int),0)]=kk at *;generalize i8 w=ww at *;generalize iM w.1=nw at *;generalize iM a=na at *;generalize iM b=nb at *;simp[vQ,c1,ix,hr,lc,hn,pr,bo]
  ·rw[ah hc]at h;cases h
section
variable {w:Web}(g:Good w)
include g
theorem Good.Hk {a b:Nat}(ha:a<w.1)(hb:b<w.1):∃ D:Nat,0<D/\D<2 ^ 200/\∀ i,cb (htQ w a b i) D (2 ^ 200):=by have bo:=Lo (a:=a) hb;have:=g.Ll (ad:=adD ((List.range w.1).map λ p=>if p=a then (1:Int) else 0)) bo.has bo.vs (rY bo.ads);rw[wk,OV a w.1 ha]at this;exact this
theorem Good.Tc {a b:Nat}(ha:a<w.1)(ne:a≠b):∃ D:Nat,0<D/\D<2 ^ 200/\∀ i,cb (ahQ w a b i) D (2 ^ 200):=by have bo:=g.Lg ha ne;have:=g.Ll (ad:=adD (List.replicate w.1 0)) bo.has bo.vs (rY bo.ads);rw[Hc ne,D5]at this;exact this
omit g in
theorem Lp {l:List Rat}{D:Nat}(h0:0<D)(hD:D<2 ^ 200)(h:∀ x∈l,cb x D (2 ^ 201)):CbL l:=by
 refine⟨D,2 ^ 201,h0,?_,Nat.pow_pos (by decide),?_,h⟩
 ·have:D*D<2 ^ 200*2 ^ 200:=Nat.mul_lt_mul'' hD hD
  have e:(2:Nat) ^ 200*2 ^ 200=2 ^ 400:=by rw[<-il]
  have:(2:Nat) ^ 400<2 ^ 1900:=fi (by decide) (by decide);lia
 ·have e:(2:Nat) ^ 201*2 ^ 201=2 ^ 402:=by rw[<-il]
  have h1:(1000:Nat)<2 ^ 10:=by decide
  have h2:1000*2 ^ 402<2 ^ 10*2 ^ 402:=Nat.mul_lt_mul_of_pos_right h1 (Nat.pow_pos (by decide));have e2:(2:Nat) ^ 10*2 ^ 402=2 ^ 412:=by rw[<-il]
  have:(2:Nat) ^ 412<2 ^ 1900:=fi (by decide) (by decide);rw[e];lia
theorem Good.QY {a b:Nat}(ha:a<w.1)(hb:b<w.1):CbL (evL w a b):=by
 obtain⟨D,h0,hD,h⟩:=g.Hk ha hb;refine Lp h0 hD λ x hx=>?_;obtain⟨t,_,rfl⟩:=aD.mp hx;have:=Lj (h t.1) (h t.2);have e:(2:Nat) ^ 200+2 ^ 200=2 ^ 201:=by rw[Nat.pow_succ]
 rw[e]at this;exact this
theorem Good.Lq {a b:Nat}(ha:a<w.1)(hb:b<w.1)(ne:a≠b):mz w a b (evL w a b):=by
 refine⟨by unfold evL;rw[ag],g.QY ha hb,λ p hp nb=>?_⟩;have e:w.2.zip (evL w a b)=evZ w (htQ w a b):=by
  unfold evL evZ;have:∀ (l:iI) (f:Nat×Nat->Rat),l.zip (l.map f)=l.map λ t=>(t,f t):=λ l f=>by
   induction l with
   | nil=>rfl
   | cons x r ih=>rw[aq,eV,ih,aq]
  exact this _ _
 rw[e,g.BH ha hb ne p hp,ah nb];grind
end
theorem Hl {w:Web}{a b i:Nat}(hi:i<w.1):dIx (.tup ((htL w a b).map iO)) (iM i)=some (iO (htQ w a b i)):=by
 have:=getD_at (l:=htL w a b) (j:=i) (by unfold htL;simp;exact hi);have e:(htL w a b).getD i 0=htQ w a b i:=by unfold htL;rw[au,ax,a_ hi];rfl
 rw[e]at this;exact this
theorem QZ {w:Web}(g:Good w){a b:Nat}(ha:a<w.1)(hb:b<w.1)(ne:a≠b):nP [i8 w,iM a,iM b]=some (.tup ((htL w a b).map iO)):=by show(dW (i8 w)).bind (λ w=>(ju (iM a)).bind λ a=>(ju (iM b)).bind λ b=>if a<w.1/\b<w.1/\a≠b then some (Dt.tup ((htL w a b).map iO)) else none)=_;rw[kf g,jk,jk,ae,ae,ae,af ⟨ha,hb,ne⟩]
theorem Good.zj {w:Web}(g:Good w){a b:Nat}(ha:a<w.1)(hb:b<w.1)(i:Nat):sm (htQ w a b i):=by obtain⟨D,h0,hD,h⟩:=g.Hk ha hb;have p:(2:Nat) ^ 200<2 ^ 1900:=fi (by decide) (by decide);exact sC (h i) h0 (by lia) p
theorem NH:Hg 3 QV vP FK:=by
 intro ds d hl h;match ds,h with
 | [x,y,z],h =>
  obtain⟨w,e1,h⟩:=iP (show(dW x).bind _=_ from h);obtain⟨a,e2,h⟩:=iP h;obtain⟨b,e3,h⟩:=iP h;by_cases hc:a<w.1/\b<w.1/\a≠b
  ·rw[af hc]at h
   cases h;obtain⟨rfl,g⟩:=kd e1;rw[jo e2,jo e3];refine⟨.rt (.tup ((evL w a b).map iO)),?_,rfl⟩;have l30:=g.sD;have c1:=QZ g hc.1 hc.2.1 hc.2.2;have ix:dIx (i8 w) (.int 1)=some (.tup (w.2.map jD)):=rfl;have lc:=jZ (enc:=jD) (gg:=kY 0 1) (ge:=iT 2 mR (iL (iY dIx (iN 2) (iN 0)) (iL (iY dIx (iN 2) (iN 1)) iQ))) (δc:=[none,none,some (.tup ((htL w a b).map iO))]) (δa:=λ t=>[some (iM t.1),some (iM t.2),some (.tup ((htL w a b).map iO))]) (enc':=λ t=>iO (htQ w a b t.1-htQ w a b t.2)) w.2 λ t ht=>⟨rfl,by obtain⟨h1,h2⟩:=g.sW ht;have i1:=Hl (w:=w) (a:=a) (b:=b) h1;have i2:=Hl (w:=w) (a:=a) (b:=b) h2;have mi:=BW (g.zj hc.1 hc.2.1 t.1) (g.zj hc.1 hc.2.1 t.2);generalize iO (htQ w a b t.1-htQ w a b t.2)=r at *;generalize iO (htQ w a b t.1)=r1 at *;generalize iO (htQ w a b t.2)=r2 at *;generalize (htL w a b).map iO=hh at *;generalize iM t.1=n1 at *;generalize iM t.2=n2 at *;simp[i1,i2,mi]⟩
   have el:w.2.map (λ t=>iO (htQ w a b t.1-htQ w a b t.2))=(evL w a b).map iO:=by unfold evL;rw[aH];rfl
   rw[el]at lc;have hn:(w.2.map jD).length<=1000:=by rw[ag];lia
   generalize (evL w a b).map iO=res at *;generalize (htL w a b).map iO=hh at *;generalize w.2.map jD=tt at *;generalize i8 w=ww at *;generalize iM a=na at *;generalize iM b=nb at *;simp[FK,c1,ix,lc,hn]
  ·rw[ah hc]at h;cases h
theorem BZ:Hg 3 D_ kn qY:=by
 intro ds d hl h;match ds,h with
 | [x,y,z],h =>
  obtain⟨w,e1,h⟩:=iP (show(dW x).bind _=_ from h);obtain⟨a,e2,h⟩:=iP h;obtain⟨b,e3,h⟩:=iP h;by_cases hc:a<w.1/\b<w.1/\a≠b
  ·rw[af hc]at h;cases h;obtain⟨rfl,g⟩:=kd e1;rw[jo e2,jo e3];refine⟨.rt (iO (hiQ w a b)),?_,rfl⟩;have c1:=QZ g hc.1 hc.2.1 hc.2.2;have ix:=Hl (w:=w) (a:=a) (b:=b) hc.1;have ix:dIx (.tup ((htL w a b).map iO)) (iM a)=some (iO (hiQ w a b)):=ix;generalize (htL w a b).map iO=hh at *;generalize iO (hiQ w a b)=res at *;generalize i8 w=ww at *;generalize iM a=na at *;generalize iM b=nb at *;simp[qY,c1,ix]
  ·rw[ah hc]at h;cases h
open Classical in
def md:List Dt->iA Dt
 | [x,y,z,u]=>(dW x).bind λ w=>(ju y).bind λ a=>(ju z).bind λ b=>(dQt u).bind λ l=>if a<w.1/\b<w.1/\nX w a b l then some (.bl true) else none
 | _=>none
open Classical in
def sZ:List Dt->iA Dt
 | [x,u]=>(dW x).bind λ w=>(dQt u).bind λ l=>if l.length=w.1/\CbL l then some (iO (sqL (flL w l))) else none
 | _=>none
open Classical in
def lX:List Dt->iA Dt
 | [x,y,z,.tup [u,v]]=>(dW x).bind λ w=>(ju y).bind λ a=>(ju z).bind λ b=>(dQt u).bind λ l=>(dQt v).bind λ m=>if a<w.1/\b<w.1/\a≠b/\mz w a b l/\nX w a b m then some (.bl true) else none
 | _=>none
open Classical in
def pX:List Dt->iA Dt
 | [x,y,z,.tup [u,v]]=>(dW x).bind λ w=>(ju y).bind λ a=>(ju z).bind λ b=>(dQt u).bind λ l=>(dQt v).bind λ m=>if a<w.1/\b<w.1/\a≠b/\mz w a b l/\nX w a b m then some (.tup [iO (sqL (flL w m))⁻¹,iO (sqL l)]) else none
 | _=>none
def oF:List Dt->iA Dt
 | [x,y,z]=>(dW x).bind λ w=>(ju y).bind λ a=>(ju z).bind λ b=>if a<w.1/\b<w.1/\a≠b then some (.tup [.tup ((evL w a b).map iO),.tup ((ahL w a b).map iO)]) else none
 | _=>none
def qZ:DE->iA RD:=(jJ (w6 (iT 2 kM (iL (iN 3) (iL (iY dIx (iN 0) (gC (.int 0))) iQ))) (w6 (iY kx (iY dIx (iN 3) (iN 1)) (gC MV)) (iY kx (iY dIx (iN 3) (iN 2)) (gC AE)))))
abbrev Ea:List Str:=["web","a","b","thing"]
def FO:DE->iA RD:=(jL (kZ 2 (gLC ["lesser","greater"] [1] (gI lZ (iY dIx (iN 0) (gC (.int 1)))) (kY 0 1) kA (iT 2 mR (iL (iY dIx (iN 2) (iN 0)) (iL (iY dIx (iN 2) (iN 1)) iQ))))) (jJ (iT 1 oz (iL (gLC ["fall"] [] (gI lZ (iN 2)) (ggN 0) kA (iT 2 my (iL (iN 0) (iL (iN 0) iQ)))) iQ))))
abbrev Q0:List Str:=["web","levels","falls"]
def s9:DE->iA RD:=(jL (nU (iT 3 lD (iL (iN 0) (iL (iN 1) (iL (iN 2) iQ))))) (jL (ng (qp (kX (gTr (jF uk (iL (iN 3) (iL (gC (.ty "tuple")) iQ))))) (gB (iY mv (jF om (iL (iN 3) iQ)) (gC (.int 2))))) (jJ (gC (.bl false))) kT) (jL (ue (kY 4 5) (iN 3)) (jJ (w6 (iT 4 kE (iL (iN 0) (iL (iN 1) (iL (iN 2) (iL (iN 4) iQ))))) (iT 4 md (iL (iN 0) (iL (iN 1) (iL (iN 2) (iL (iN 5) iQ))))))))))
abbrev FP:List Str:=["web","a","b","thing","stream","levels"]
def B0:DE->iA RD:=(jL (ng (kX (gTr (iT 4 lX (iL (iN 0) (iL (iN 1) (iL (iN 2) (iL (iN 3) iQ))))))) sM kT) (jL (ue (kY 4 5) (iN 3)) (jL (ue (kY 6 7) (iT 2 sZ (iL (iN 0) (iL (iN 5) iQ)))) (jJ (kL (iL (kL (iL (iN 7) (iL (iN 6) iQ))) (iL (iT 4 qW (iL (iN 0) (iL (iN 1) (iL (iN 2) (iL (iN 4) iQ))))) iQ)))))))
abbrev NI:List Str:=["web","a","b","paper","stream","levels","top","bottom"]
def q_:DE->iA RD:=(jL (kZ 3 (iT 3 vP (iL (iN 0) (iL (iN 1) (iL (iN 2) iQ))))) (jJ (kL (iL (iN 3) (iL (iT 3 lQ (iL (iN 0) (iL (iN 1) (iL (iN 2) iQ)))) iQ)))))
abbrev Eb:List Str:=["web","a","b","stream"]
theorem B1 {l:List Rat}{i:Nat}(h:i<l.length):dIx (.tup (l.map iO)) (iM i)=some (iO (l.getD i 0)):=getD_at h
open Classical in
theorem B2:Hg 4 Ea md qZ:=by
 intro ds d hl h;match ds,h with
 | [x,y,z,u],h =>
  have h:(dW x).bind (λ w=>(ju y).bind λ a=>(ju z).bind λ b=>(dQt u).bind λ l=>if a<w.1/\b<w.1/\nX w a b l then some (Dt.bl true) else none)=some d:=by unfold md at h;exact h
  obtain⟨w,e1,h1⟩:=iP h;obtain⟨a,e2,h2⟩:=iP h1;obtain⟨b,e3,h3⟩:=iP h2;obtain⟨l,e4,h4⟩:=iP h3;by_cases hc:a<w.1/\b<w.1/\nX w a b l
  ·rw[af hc]at h4;cases h4;obtain⟨rfl,g⟩:=kd e1;rw[nF e4,jo e2,jo e3];obtain⟨ha,hb,lp⟩:=hc;refine⟨.rt (.bl true),?_,rfl⟩;have h8:=g.km;have c2:=KJ lp.len (by lia);have i1:=B1 (l:=l) (i:=a) (by rw[lp.len];exact ha);have i2:=B1 (l:=l) (i:=b) (by rw[lp.len];exact hb);rw[lp.la]at i1;rw[lp.lb]at i2;have ix:dIx (i8 w) (.int 0)=some (iM w.1):=rfl;have q1:=Qu 1 1;have q2:=Qu 0 0;rw[decide_eq_true rfl]at q1 q2;have q1:kx (iO 1) (.tup [.int 1,.int 1])=some (.bl true):=q1;have q2:kx (iO 0) (.tup [.int 0,.int 1])=some (.bl true):=q2;generalize iO 1=o1 at *;generalize iO 0=o0 at *;generalize l.map iO=ll at *;generalize i8 w=ww at *;generalize iM w.1=nw at *;generalize iM a=na at *;generalize iM b=nb at *;simp[qZ,ix,c2,i1,i2,q1,q2]
  ·rw[ah hc]at h4;cases h4
theorem CbL.OW {w:Web}{l:List Rat}(g:Good w)(len:l.length=w.1)(h:CbL l):∃ D N:Nat,0<D/\D*D<2 ^ 1900/\1000*(N*N)<2 ^ 1900/\∀ t∈w.2,cb (l.getD t.1 0-l.getD t.2 0) D (2*N):=by
 obtain⟨D,N,h1,h2,h3,h4,h5⟩:=h;refine⟨D,N,h1,h2,h4,λ t ht=>?_⟩;obtain⟨p1,p2⟩:=g.sW ht;have m:∀ i,i<w.1->l.getD i 0∈l:=λ i hi=>by rw[au,aC (by rw[len];exact hi)];exact cJ _
 have:=Lj (h5 _ (m _ p1)) (h5 _ (m _ p2));exact pV this (by lia)
open Classical in
theorem NJ:Hg 2 Q0 sZ FO:=by
 intro ds d hl h;match ds,h with
 | [x,u],h =>
  have h:(dW x).bind (λ w=>(dQt u).bind λ l=>if l.length=w.1/\CbL l then some (iO (sqL (flL w l))) else none)=some d:=by unfold sZ at h;exact h
  obtain⟨w,e1,h1⟩:=iP h;obtain⟨l,e4,h4⟩:=iP h1;by_cases hc:l.length=w.1/\CbL l
  ·rw[af hc]at h4
   cases h4;obtain⟨rfl,g⟩:=kd e1;rw[nF e4];obtain⟨len,cl⟩:=hc;refine⟨.rt (iO (sqL (flL w l))),?_,rfl⟩;have l30:=g.sD;obtain⟨D,N,h1,h2,h3,h4⟩:=CbL.OW g len cl;have dd1:D<=D*D:=e_ D h1;have e4N:2*N*(2*N)=4*(N*N):=by grind
   have nn:N<=N*N:=by
    rcases Nat.eq_zero_or_pos N with z | z
    ·rw[z];exact ak _
    ·exact e_ N z
   have smf:∀ x∈flL w l,sm x:=λ x hx=>by obtain⟨t,ht,rfl⟩:=aD.mp hx;exact sC (h4 t ht) h1 (by lia) (by lia)
   have ix:dIx (i8 w) (.int 1)=some (.tup (w.2.map jD)):=rfl;have lc1:=jZ (enc:=jD) (gg:=kY 0 1) (ge:=iT 2 mR (iL (iY dIx (iN 2) (iN 0)) (iL (iY dIx (iN 2) (iN 1)) iQ))) (δc:=[none,none,some (.tup (l.map iO))]) (δa:=λ t=>[some (iM t.1),some (iM t.2),some (.tup (l.map iO))]) (enc':=λ t=>iO (l.getD t.1 0-l.getD t.2 0)) w.2 λ t ht=>⟨rfl,by
    obtain⟨p1,p2⟩:=g.sW ht;have i1:=B1 (l:=l) (i:=t.1) (by rw[len];exact p1);have i2:=B1 (l:=l) (i:=t.2) (by rw[len];exact p2);have m:∀ i,i<w.1->l.getD i 0∈l:=λ i hi=>by rw[au,aC (by rw[len];exact hi)];exact cJ _
    have mi:=BW (cl.sm _ (m _ p1)) (cl.sm _ (m _ p2));generalize iO (l.getD t.1 0-l.getD t.2 0)=r at *;generalize iO (l.getD t.1 0)=r1 at *;generalize iO (l.getD t.2 0)=r2 at *;generalize l.map iO=hh at *;generalize iM t.1=n1 at *;generalize iM t.2=n2 at *;simp[i1,i2,mi]⟩
   have el:w.2.map (λ t=>iO (l.getD t.1 0-l.getD t.2 0))=(flL w l).map iO:=by unfold flL;rw[aH];rfl
   rw[el]at lc1;have lc2:=jZ (enc:=iO) (gg:=ggN 0) (ge:=iT 2 my (iL (iN 0) (iL (iN 0) iQ))) (δc:=[none]) (δa:=λ x=>[some (iO x)]) (enc':=λ x=>iO (x*x)) (flL w l) λ x hx=>⟨rfl,by have tk:=zh (smf x hx) (smf x hx);generalize iO (x*x)=r at *;generalize iO x=e at *;simp[tk]⟩
   have er:(flL w l).map (λ x=>iO (x*x))=((flL w l).map λ x=>x*x).map iO:=by rw[aH];rfl
   rw[er]at lc2;have lf:(flL w l).length=w.2.length:=by unfold flL;rw[ag]
   have hl30:((flL w l).map λ x=>x*x).length*(2*N*(2*N))<=30*(2*N*(2*N)):=eO _ (by rw[ag,lf];exact l30);have tq:=BS (uK (D:=D*D) (N:=2*N*(2*N)) (l:=(flL w l).map λ x=>x*x) (fk h1 h1) h2 (λ x hx=>by obtain⟨y,hy,rfl⟩:=aD.mp hx;obtain⟨t,ht,rfl⟩:=aD.mp hy;have:=BU (h4 t ht) (h4 t ht);exact this) (by lia) (by lia)).1
   have tq:oz [.lst (((flL w l).map λ x=>x*x).map iO)]=some (iO (sqL (flL w l))):=tq;have hn:(w.2.map jD).length<=1000:=by rw[ag];lia
   have hn2:((flL w l).map iO).length<=1000:=by rw[ag,lf];lia
   generalize iO (sqL (flL w l))=res at *;generalize ((flL w l).map λ x=>x*x).map iO=qs at *;generalize (flL w l).map iO=fs at *;generalize l.map iO=ll at *;generalize w.2.map jD=tt at *;generalize i8 w=ww at *;simp[FO,ix,lc1,lc2,hn,hn2,tq]
  ·rw[ah hc]at h4;cases h4
theorem B3:Hg 3 Eb oF q_:=by
 intro ds d hl h;match ds,h with
 | [x,y,z],h =>
  obtain⟨w,e1,h⟩:=iP (show(dW x).bind _=_ from h);obtain⟨a,e2,h⟩:=iP h;obtain⟨b,e3,h⟩:=iP h;by_cases hc:a<w.1/\b<w.1/\a≠b
  ·rw[af hc]at h
   cases h;obtain⟨rfl,g⟩:=kd e1;rw[jo e2,jo e3];refine⟨.rt (.tup [.tup ((evL w a b).map iO),.tup ((ahL w a b).map iO)]),?_,rfl⟩;have c1:vP [i8 w,iM a,iM b]=some (.tup ((evL w a b).map iO)):=by show(dW (i8 w)).bind (λ w=>(ju (iM a)).bind λ a=>(ju (iM b)).bind λ b=>if a<w.1/\b<w.1/\a≠b then some (Dt.tup ((evL w a b).map iO)) else none)=_;rw[kf g,jk,jk,ae,ae,ae,af hc]
   have c2:lQ [i8 w,iM a,iM b]=some (.tup ((ahL w a b).map iO)):=by show(dW (i8 w)).bind (λ w=>(ju (iM a)).bind λ a=>(ju (iM b)).bind λ b=>if a<w.1/\b<w.1/\a≠b then some (Dt.tup ((ahL w a b).map iO)) else none)=_;rw[kf g,jk,jk,ae,ae,ae,af hc]
   generalize (evL w a b).map iO=l1 at *;generalize (ahL w a b).map iO=l2 at *;generalize i8 w=ww at *;generalize iM a=na at *;generalize iM b=nb at *;simp[q_,c1,c2]
  ·rw[ah hc]at h;cases h
open Classical in
theorem Q1 {w:Web}(g:Good w){a b:Nat}(ha:a<w.1)(hb:b<w.1){l:List Rat}(lp:nX w a b l):md [i8 w,iM a,iM b,.tup (l.map iO)]=some (.bl true):=by unfold md;show(dW (i8 w)).bind (λ w=>(ju (iM a)).bind λ a=>(ju (iM b)).bind λ b=>(dQt (.tup (l.map iO))).bind λ l=>if a<w.1/\b<w.1/\nX w a b l then some (Dt.bl true) else none)=_;rw[kf g,jk,jk,nG,ae,ae,ae,ae,af ⟨ha,hb,lp⟩]
open Classical in
theorem Td {w:Web}(g:Good w){l:List Rat}(len:l.length=w.1)(cl:CbL l):sZ [i8 w,.tup (l.map iO)]=some (iO (sqL (flL w l))):=by unfold sZ;show(dW (i8 w)).bind (λ w=>(dQt (.tup (l.map iO))).bind λ l=>if l.length=w.1/\CbL l then some (iO (sqL (flL w l))) else none)=_;rw[kf g,nG,ae,ae,af ⟨len,cl⟩]
open Classical in
theorem Lr {w:Web}(g:Good w){a b:Nat}(ha:a<w.1)(hb:b<w.1)(ne:a≠b){l:List Rat}(sp:mz w a b l):qW [i8 w,iM a,iM b,.tup (l.map iO)]=some (iO (sqL l)):=by unfold qW;show(dW (i8 w)).bind (λ w=>(ju (iM a)).bind λ a=>(ju (iM b)).bind λ b=>(dQt (.tup (l.map iO))).bind λ l=>if a<w.1/\b<w.1/\a≠b/\mz w a b l then some (iO (sqL l)) else none)=_;rw[kf g,jk,jk,nG,ae,ae,ae,ae,af ⟨ha,hb,ne,sp⟩]
theorem Good.drop_eq {w:Web}(l:List Rat):sqL (flL w l)=(w.2.map λ t=>(l.getD t.1 0-l.getD t.2 0)*(l.getD t.1 0-l.getD t.2 0)).sum:=by unfold sqL flL;rw[aH];rfl
theorem Good.Ec {w:Web}(g:Good w){a b:Nat}(ha:a<w.1)(hb:b<w.1)(ne:a≠b){l:List Rat}(lp:nX w a b l):(hiQ w a b)⁻¹<=sqL (flL w l):=by rw[Good.drop_eq,g.K0 ha hb ne (l:=λ i=>l.getD i 0) lp.la lp.lb];have:=yS (λ t:Nat×Nat=>(l.getD t.1 0-l.getD t.2 0)-(hiQ w a b)⁻¹*(htQ w a b t.1-htQ w a b t.2)) w.2;grind
theorem Good.Ed {w:Web}(g:Good w){a b:Nat}(ha:a<w.1)(hb:b<w.1)(ne:a≠b){l:List Rat}(lp:nX w a b l):0<sqL (flL w l):=by have h1:=g.Ec ha hb ne lp;have h2:=hX.mpr (g.yU ha hb ne);grind
open Classical in
theorem Ee:Hg 4 FP lX s9:=by
 intro ds d hl h;match ds,h with
 | [x,y,z,.tup [u,v]],h =>
  have h:(dW x).bind (λ w=>(ju y).bind λ a=>(ju z).bind λ b=>(dQt u).bind λ l=>(dQt v).bind λ m=>if a<w.1/\b<w.1/\a≠b/\mz w a b l/\nX w a b m then some (Dt.bl true) else none)=some d:=by unfold lX at h;exact h
  obtain⟨w,e1,h1⟩:=iP h;obtain⟨a,e2,h2⟩:=iP h1;obtain⟨b,e3,h3⟩:=iP h2;obtain⟨l,e4,h4⟩:=iP h3;obtain⟨m,e5,h5⟩:=iP h4;by_cases hc:a<w.1/\b<w.1/\a≠b/\mz w a b l/\nX w a b m
  ·rw[af hc]at h5;cases h5;obtain⟨rfl,g⟩:=kd e1;rw[nF e4,nF e5,jo e2,jo e3];obtain⟨ha,hb,ne,sp,lp⟩:=hc;refine⟨.rt (.bl true),?_,rfl⟩;have c1:=zi g ha hb ne;have c2:=FL g ha hb ne sp;have c3:=Q1 g ha hb lp;generalize l.map iO=ll at *;generalize m.map iO=mm at *;generalize i8 w=ww at *;generalize iM a=na at *;generalize iM b=nb at *;simp[s9,c1,c2,c3]
  ·rw[ah hc]at h5;cases h5
open Classical in
theorem Ls {w:Web}(g:Good w){a b:Nat}(ha:a<w.1)(hb:b<w.1)(ne:a≠b){l m:List Rat}(sp:mz w a b l)(lp:nX w a b m):lX [i8 w,iM a,iM b,.tup [.tup (l.map iO),.tup (m.map iO)]]=some (.bl true):=by unfold lX;show(dW (i8 w)).bind (λ w=>(ju (iM a)).bind λ a=>(ju (iM b)).bind λ b=>(dQt (.tup (l.map iO))).bind λ l=>(dQt (.tup (m.map iO))).bind λ m=>if a<w.1/\b<w.1/\a≠b/\mz w a b l/\nX w a b m then some (Dt.bl true) else none)=_;rw[kf g,jk,jk,nG,nG,ae,ae,ae,ae,ae,af ⟨ha,hb,ne,sp,lp⟩]
open Classical in
theorem Lu:Hg 4 NI pX B0:=by
 intro ds d hl h;match ds,h with
 | [x,y,z,.tup [u,v]],h =>
  have h:(dW x).bind (λ w=>(ju y).bind λ a=>(ju z).bind λ b=>(dQt u).bind λ l=>(dQt v).bind λ m=>if a<w.1/\b<w.1/\a≠b/\mz w a b l/\nX w a b m then some (Dt.tup [iO (sqL (flL w m))⁻¹,iO (sqL l)]) else none)=some d:=by unfold pX at h;exact h
  obtain⟨w,e1,h1⟩:=iP h;obtain⟨a,e2,h2⟩:=iP h1;obtain⟨b,e3,h3⟩:=iP h2;obtain⟨l,e4,h4⟩:=iP h3;obtain⟨m,e5,h5⟩:=iP h4;by_cases hc:a<w.1/\b<w.1/\a≠b/\mz w a b l/\nX w a b m
  ·rw[af hc]at h5;cases h5;obtain⟨rfl,g⟩:=kd e1;rw[nF e4,nF e5,jo e2,jo e3];obtain⟨ha,hb,ne,sp,lp⟩:=hc;refine⟨.rt (.tup [iO (sqL (flL w m))⁻¹,iO (sqL l)]),?_,rfl⟩;have c1:=Ls g ha hb ne sp lp;have c2:=Td g lp.len lp.cbl;have c3:=Lr g ha hb ne sp;have c2:sZ [i8 w,.tup (m.map iO)]=some (.tup [.int (sqL (flL w m)).num,.int (sqL (flL w m)).den]):=c2;rw[He (g.Ed ha hb ne lp)];generalize iO (sqL l)=cq at *;generalize l.map iO=ll at *;generalize m.map iO=mm at *;generalize i8 w=ww at *;generalize iM a=na at *;generalize iM b=nb at *;simp[B0,c1,c2,c3]
  ·rw[ah hc]at h5;cases h5
open Classical in
theorem OX {w:Web}(g:Good w){a b:Nat}(ha:a<w.1)(hb:b<w.1)(ne:a≠b){l m:List Rat}(sp:mz w a b l)(lp:nX w a b m):pX [i8 w,iM a,iM b,.tup [.tup (l.map iO),.tup (m.map iO)]]=some (.tup [iO (sqL (flL w m))⁻¹,iO (sqL l)]):=by unfold pX;show(dW (i8 w)).bind (λ w=>(ju (iM a)).bind λ a=>(ju (iM b)).bind λ b=>(dQt (.tup (l.map iO))).bind λ l=>(dQt (.tup (m.map iO))).bind λ m=>if a<w.1/\b<w.1/\a≠b/\mz w a b l/\nX w a b m then some (Dt.tup [iO (sqL (flL w m))⁻¹,iO (sqL l)]) else none)=_;rw[kf g,jk,jk,nG,nG,ae,ae,ae,ae,ae,af ⟨ha,hb,ne,sp,lp⟩]
section
variable {w:Web}(g:Good w){a b:Nat}
include g
theorem Good.OY (ha:a<w.1)(hb:b<w.1)(ne:a≠b):sqL (evL w a b)=hiQ w a b:=by rw[<-g.nN ha hb ne];unfold sqL evL;rw[aH];rfl
omit g in
theorem B4 {i:Nat}(hi:i<w.1):(ahL w a b).getD i 0=ahQ w a b i:=by unfold ahL;rw[au,ax,a_ hi];rfl
theorem Good.Q2 (ha:a<w.1)(hb:b<w.1)(ne:a≠b):nX w a b (ahL w a b):=by
 obtain⟨D,h0,hD,h⟩:=g.Tc ha ne;refine⟨by unfold ahL;simp,Lp h0 hD λ x hx=>?_,?_,?_⟩
 ·obtain⟨i,_,rfl⟩:=aD.mp hx;exact pV (h i) (bN (by decide) (by decide))
 ·rw[B4 ha];exact g.uB (xt ha) ha (v:=1) (by unfold gvA;rw[af rfl])
 ·rw[B4 hb];exact g.uB (xt ha) hb (v:=0) (by unfold gvA;rw[ah (aX ne),af rfl])
theorem Good.Te (ha:a<w.1)(hb:b<w.1)(ne:a≠b):(sqL (flL w (ahL w a b)))⁻¹=hiQ w a b:=by
 rw[Good.drop_eq];have e:w.2.map (λ t=>((ahL w a b).getD t.1 0-(ahL w a b).getD t.2 0)*((ahL w a b).getD t.1 0-(ahL w a b).getD t.2 0))=w.2.map λ t=>(ahQ w a b t.1-ahQ w a b t.2)*(ahQ w a b t.1-ahQ w a b t.2):=aK λ t ht=>by obtain⟨h1,h2⟩:=g.sW ht;rw[B4 h1,B4 h2]
 rw[e,g.Ni ha hb ne,Rat.inv_inv]
theorem Good.Lv (ha:a<w.1)(hb:b<w.1)(ne:a≠b){l:List Rat}(sp:mz w a b l):hiQ w a b<=sqL l/\(sqL l=hiQ w a b->l=evL w a b):=by
 have hz:(w.2.zip l).map (·.1)=w.2:=by rw[List.map_fst_zip];rw[sp.len];exact ak _
 have hs:(w.2.zip l).map (·.2)=l:=by rw[List.map_snd_zip];rw[sp.len];exact ak _
 have hb0:dvg (w.2.zip l) b=-1:=by
  have p:=yR (λ _=>1) w.1 (w.2.zip l) λ z hz'=>g.sW (eh hz').1;have l0:((w.2.zip l).map λ z=>z.2*((1:Rat)-1)).sum=0:=by
   have:((w.2.zip l).map λ z=>z.2*((1:Rat)-1))=(w.2.zip l).map λ z=>0*z.2+0*z.2:=aK λ z _=>by grind
   rw[this,sX];grind
  rw[l0]at p;have e:((List.range w.1).map λ q=>(1:Rat)*dvg (w.2.zip l) q).sum=((List.range w.1).map λ q=>(if q=a then (1:Rat) else 0)+(if q=b then dvg (w.2.zip l) q else 0)).sum:=jU λ q hq=>by
   by_cases d:q=b
   ·rw[af d,ah (by lia)];grind
   ·rw[ah d,sp.str q (aw.mp hq) d];grind
  rw[e,mN,mO (f:=λ _=>(1:Rat)) bj (aw.mpr ha),mO (f:=λ q=>dvg (w.2.zip l) q) bj (aw.mpr hb)]at p;grind
 have hd:∀ p,p<w.1->dvg (w.2.zip l) p=(if p=a then 1 else 0)+-1*(if p=b then 1 else 0):=λ p hp=>by
  by_cases d:p=b
  ·rw[d,hb0,ah (aX ne),af rfl];grind
  ·rw[sp.str p hp d,ah d];grind
 have c:=g.KZ ha hb ne hz hd;have e1:((w.2.zip l).map λ z=>z.2*z.2).sum=sqL l:=by
  unfold sqL;conv=>rhs;rw[<-hs]
  rw[aH];rfl
 rw[e1]at c;have nn:=yS (λ z:(Nat×Nat)×Rat=>z.2-(htQ w a b z.1.1-htQ w a b z.1.2)) (w.2.zip l);refine⟨by rw[c];grind,λ q=>?_⟩;rw[q]at c;have z0:=yT (λ z:(Nat×Nat)×Rat=>z.2-(htQ w a b z.1.1-htQ w a b z.1.2)) (w.2.zip l) (by grind);conv=>lhs;rw[<-hs]
 have e2:(w.2.zip l).map (·.2)=(w.2.zip l).map λ z=>htQ w a b z.1.1-htQ w a b z.1.2:=aK λ z hz'=>by have:=z0 z hz';grind
 rw[e2];unfold evL;conv=>rhs;rw[<-hz]
 rw[aH];rfl
end
abbrev ra:=mR
def kB:List Dt->iA Dt
 | [x,y]=>(dQ x).bind λ a=>(dQ y).bind λ b=>if sm a/\sm b then some (.bl (decide (b<=a))) else none
 | _=>none
def wm:DE->iA RD:=(jJ (iT 2 rV (iL (iY (dI (·-·)) (iY mL (iY dIx (iN 0) (gC (.int 0))) (iY dIx (iN 1) (gC (.int 1)))) (iY mL (iY dIx (iN 1) (gC (.int 0))) (iY dIx (iN 0) (gC (.int 1))))) (iL (iY mL (iY dIx (iN 0) (gC (.int 1))) (iY dIx (iN 1) (gC (.int 1)))) iQ))))
abbrev Ef:List Str:=["_law_one","_law_other"]
def nY:DE->iA RD:=(jJ (iY (dIB λ i j=>decide (j<=i)) (iY mL (iY dIx (iN 0) (gC (.int 0))) (iY dIx (iN 1) (gC (.int 1)))) (iY mL (iY dIx (iN 1) (gC (.int 0))) (iY dIx (iN 0) (gC (.int 1))))))
abbrev zk:List Str:=["_law_one","_law_other"]
theorem B5:Hg 2 Ef ra wm:=D8
theorem Lw (a b:Rat):decide (b.num*a.den<=a.num*b.den)=decide (b<=a):=by rw[bH,decide_eq_true_iff,decide_eq_true_iff];exact(Rat.le_iff (a:=b) (b:=a)).symm
theorem xc:Hg 2 zk kB nY:=by
 intro ds d hl h;match ds,h with
 | [x,y],h =>
  obtain⟨a,e1,h⟩:=iP (show(dQ x).bind _=_ from h);obtain⟨b,e2,h⟩:=iP h;by_cases hc:sm a/\sm b
  ·rw[af hc]at h;cases h;rw[vE e1,vE e2];obtain⟨ha,hb⟩:=hc;have a1:=nC ha.1;have b1:=nC hb.1;have a2:bd (a.den:Int):=nC (by simpa using ha.2);have b2:bd (b.den:Int):=nC (by simpa using hb.2);refine⟨.rt (.bl (decide (b<=a))),?_,rfl⟩;rw[<-Lw];simp only[nY,iO,jJ,iT,iL,iY,iN,gC,iQ,mK,aq,dH,aQ,cn,d3,bE,bh,dB,ae,dIx,MY,MZ,dIC,dIB,a1,b1,a2,b2,and_self,cM,bP]
  ·rw[ah hc]at h;cases h
theorem Lx {x y:Rat}(hx:sm x)(hy:sm y):kB [iO x,iO y]=some (.bl (decide (y<=x))):=by show(dQ (iO x)).bind (λ a=>(dQ (iO y)).bind λ b=>if sm a/\sm b then some (Dt.bl (decide (b<=a))) else none)=_;rw[nh,nh,ae,ae,af ⟨hx,hy⟩]
end L2
namespace L2
open PySem PySem.Spec PyProof.Rows
set_option genInjectivity false in
set_option genSizeOf false in
structure FnT (K:iF)(mg:iq)(n:Str)(s:Stmt)(ps:List Str) where
 f:Addr
 fd:FuncData
 F:Fun K n n s f fd
 m:mg n=some (.ref f)
 bb:∀ us:List iG,us.length=ps.length->bindArgs fd ⟨us,[]⟩=pure (ps.zip us)
theorem FnT.b {K:iF}{mg:iq}{n:Str}{s:Stmt}{ps:List Str}(t:FnT K mg n s ps):Binds K t.fd ps []:=.all t.bb
structure CtT (K:iF)(mg:iq)(n:Str)(d:Dt) where
 u:iG
 v:V
 m:mg n=some u
 r:RelV v u
 i:∀ H,Is K H v d
abbrev OkT {K:iF}{mg:iq}{n:Str}{s:Stmt}{ps:List Str}(P:Program)(w:World)(base:Heap)(t:FnT K mg n s ps)(k:Nat)(sp:Sp):Prop:=vk P w K mg base CX0 k t.f t.fd ps sp
theorem FnT.okD {P:Program}{w:World}{base:Heap}{K:iF}{mg:iq}{n:Str}{st:Stmt}{ps N:List Str}{k:Nat}{fD:List Dt->iA Dt}{g:DE->iA RD}(t:FnT K mg n st ps)(S:jg N ps (iX st))
  (hbody:∀ (cdv:iG) (A:Around) (outer:List Env) (s:iH) (H:Hp) (E:XK),lV k (A.deeper (envOfC n (iX st) s.heap.objs.size t.f cdv)) ->
   PSs (CJ CX0 P w K mg base N n (iX st) t.f cdv A outer s H E).nox (ow st) (tDS K g))
  (hg:∀ ds d,ds.length=ps.length->fD ds=some d->∃ r,g (mK N ds)=some r/\Qd r=d):OkT P w base t (k+1) (spD K ps.length fD):=t.F.okD S hbody hg
section
variable {X:Cx}{e:Expr}{es:List Expr}{pos p:Pos}{x:Str}{st:Stmt}{j k n:Nat}{ps:List Str}
theorem pC {sp:Sp}{t:TA}(T:FnT X.K X.mg x st ps)(F:vk X.prog X.w X.K X.mg X.base CX0 k T.f T.fd ps sp)(hr:lV j X.A)(ha:PA X (e::es) t)(hj:k<=j:=by decide)(hg:Gl X x:=by rfl)(hdb:(x==("__debug__":Str))=false:=by decide)(he:starEach (e::es) X.env=(false,eval e X.env)::starEach es X.env:=by rfl)(hpl:(backTo pos (starEach es X.env)).any (·.1)=false:=by rfl) :
  PE X (.Call (.Name x p) (e::es) [] pos) (kD sp [] E0 t):=Gd F (hr.mono hj) hg T.m T.F.kp T.b .nil Ov ha hdb he hpl
theorem dC {fD:List Dt->iA Dt}{gs:DE->iA (List Dt)}(t:FnT X.K X.mg x st ps)(F:vk X.prog X.w X.K X.mg X.base CX0 k t.f t.fd ps (spD X.K n fD))(hr:lV j X.A)(ha:PDs X (e::es) gs)(hj:k<=j:=by decide)(hg:Gl X x:=by rfl)(hdb:(x==("__debug__":Str))=false:=by decide)(he:starEach (e::es) X.env=(false,eval e X.env)::starEach es X.env:=by rfl)(hpl:(backTo pos (starEach es X.env)).any (·.1)=false:=by rfl) :
  PD X (.Call (.Name x p) (e::es) [] pos) (iT n fD gs):=P8 F (hr.mono hj) t.m t.F.kp t.b ha hg hdb he hpl
theorem dG {d:Dt}(c:CtT X.K X.mg x d)(hg:Gl X x:=by rfl)(hd:(x==("__debug__":Str))=false:=by decide):PD X (.Name x pos) (gC d):=P5 c.m c.r c.i hg hd
theorem pgo (i:Nat)(hN:X.N.Nodup:=by trivial)(hi:X.N[i]?=some x:=by rfl)(hx:Loc X.env.scope x:=by trivial)(hf:X.fn x=true\/X.env.scope.names.lookup x=some .local:=by trivial):PG X (.Name x pos) (jt i):=Mh hN hi hx hf
theorem csc {scope:Scope}(own fr:List Str)(ix:List Nat)(h1:scope.kind=.function:=by rfl)(h2:(scope.names.all λ x=>x.2 != .local || scope.names.lookup x.1==some .local)=true:=by rfl)
  (h3:(scope.names.all λ x=>x.2 != .cell)=true:=by rfl) (h4:(scope.names.all λ x=>x.2 != .free || (X.env.kindOf x.1==some .cell || X.env.kindOf x.1==some .free))=true:=by rfl)
  (h5:(own.all λ x=>scope.names.lookup x==some .local)=true:=by rfl) (h6:(fr.all λ x=>scope.names.lookup x==some .free)=true:=by rfl) (h7:ix.map (λ i=>X.N[i]?)=fr.map some:=by rfl) (h8:(own++fr).Nodup:=by decide +kernel):mh X scope own fr ix:=Qm h1 h2 h3 h4 h5 h6 h7 h8
end
theorem ls0 {P:List iG->Prop}(h:P [])(us:List iG)(e:us.length=0):P us:=by rw[gr e];exact h
theorem lsS {P:List iG->Prop}{k:Nat}(h:∀ a us,us.length=k->P (a::us))(us:List iG)(e:us.length=k+1):P us:=by
 cases us with
 | nil=>cases e
 | cons a r=>exact h a r (Nat.succ.inj e)
theorem ls1 {P:List iG->Prop}(h:∀ a,P [a])(us:List iG)(e:us.length=1):P us:=lsS (k:=0) (λ a us e=>ls0 (P:=λ us=>P (a::us)) (h a) us e) us e
theorem ls2 {P:List iG->Prop}(h:∀ a b,P [a,b])(us:List iG)(e:us.length=2):P us:=lsS (k:=1) (λ a us e=>ls1 (P:=λ us=>P (a::us)) (h a) us e) us e
theorem ls3 {P:List iG->Prop}(h:∀ a b c,P [a,b,c])(us:List iG)(e:us.length=3):P us:=lsS (k:=2) (λ a us e=>ls2 (P:=λ us=>P (a::us)) (h a) us e) us e
theorem ls4 {P:List iG->Prop}(h:∀ a b c d,P [a,b,c,d])(us:List iG)(e:us.length=4):P us:=lsS (k:=3) (λ a us e=>ls3 (P:=λ us=>P (a::us)) (h a) us e) us e
section
variable {K:iF}{h:Heap}{mg:iq}{n:Str}(X:K.In h)(G:h.Ns mainGlobals mg)
def fnT {s:Stmt}{ps:List Str}{f:Addr}{od an:iA Addr}{sl:Array (iA iG)}{oc kV dc pm cd ct:iG}(a:PySem.W.nsIn K mainGlobals n=some (some (.ref f)))
  (l:K.lookup f=some ⟨oc,od,.func (PySem.W.fnOf n n (tV s) (ow s) (iX s) .none kV dc pm an cd ct),sl⟩) (c:PySem.W.codeIn K cd n=true) (k:PySem.W.keepIn K (.ref f)=true)
  (hb:∀ (kV dc pm:iG) (an:iA Addr) (cd ct:iG) (us:List iG),us.length=ps.length->bindArgs (PySem.W.fnOf n n (tV s) (ow s) (iX s) .none kV dc pm an cd ct) ⟨us,[]⟩=pure (ps.zip us):=by first | exact λ _ _ _ _ _ _=>L2.ls1 λ _=>rfl | exact λ _ _ _ _ _ _=>L2.ls2 λ _ _=>rfl | exact λ _ _ _ _ _ _=>L2.ls3 λ _ _ _=>rfl | exact λ _ _ _ _ _ _=>L2.ls4 λ _ _ _ _=>rfl | exact λ _ _ _ _ _ _=>L2.ls0 rfl):FnT K mg n s ps :=
 ⟨f,_,PR (st:=s) l c k,gY X G a,hb _ _ _ _ _ _⟩
def ctI {i:Int}{t:Tok}(a:PySem.W.nsIn K mainGlobals n=some (some (.int i t))):CtT K mg n (.int i):=⟨_,.int i,gY X G a,⟨_,rfl⟩,λ _=>.int _⟩
def ctP {i j:Int}{q:Addr}{t1 t2:Tok}{m:Nat}{s:Array (iA iG)}(a:PySem.W.nsIn K mainGlobals n=some (some (.ref q)))(u:K.lookup q=some ⟨.type "tuple",none,.seq #[.int i t1,.int j t2] m,s⟩):CtT K mg n (.tup [.int i,.int j]) :=
 ⟨_,.ref q,gY X G a,rfl,λ H=>Is.tup (xs:=[.int i,.int j]) (.inr ⟨_,_,_,u,⟨rfl,rfl⟩,rfl,by show 2<=sizeLine;decide,.cons ⟨_,rfl⟩ (.cons ⟨_,rfl⟩ .nil)⟩) (.cons (.int _) (.cons (.int _) .nil))⟩
end
end L2
namespace K44
open PySem PySem.Spec PyProof.Rows L2 Zp
def top (i:Nat):Stmt:=PySem.Challenge.pw_treewalkers_k44_whole_streams.main.body.getD i (.Pass ⟨0,0,0,0⟩)
abbrev zl:Stmt:=top 10
abbrev pB:Stmt:=top 11
abbrev sE:Stmt:=top 12
abbrev ql:Stmt:=top 13
abbrev zm:Stmt:=top 14
abbrev Ly:Stmt:=top 15
abbrev Hm:Stmt:=top 16
abbrev Hn:Stmt:=top 17
abbrev Ho:Stmt:=top 18
abbrev Eg:Stmt:=top 19
abbrev AO:Stmt:=top 20
abbrev zo:Stmt:=top 24
abbrev Eh:Stmt:=top 25
abbrev wo:Stmt:=top 26
abbrev AQ:Stmt:=top 27
abbrev wq:Stmt:=top 28
abbrev AR:Stmt:=top 29
abbrev Ei:Stmt:=top 30
abbrev wu:Stmt:=top 31
abbrev sF:Stmt:=top 32
abbrev wx:Stmt:=top 33
abbrev uO:Stmt:=top 34
abbrev Hq:Stmt:=top 35
abbrev zq:Stmt:=top 37
abbrev zr:Stmt:=top 38
abbrev Hr:Stmt:=top 39
abbrev qm:Stmt:=top 40
abbrev uP:Stmt:=top 42
abbrev wy:Stmt:=top 43
abbrev Lz:Stmt:=top 44
abbrev AS:Stmt:=top 45
abbrev LA:Stmt:=top 46
abbrev wz:Stmt:=top 47
abbrev wG:Stmt:=top 49
abbrev LB:Stmt:=top 50
abbrev zt:Stmt:=top 51
abbrev Hs:Stmt:=top 52
abbrev wH:Stmt:=top 53
abbrev rb:Stmt:=top 55
abbrev zu:Stmt:=top 56
abbrev wI:Stmt:=top 57
abbrev AU:Stmt:=top 58
abbrev wJ:Stmt:=top 59
abbrev wK:Stmt:=top 60
abbrev uQ:Stmt:=top 61
abbrev wL:Stmt:=top 62
abbrev s_:Stmt:=top 63
abbrev zv:Stmt:=top 64
abbrev qo:Stmt:=top 65
abbrev wM:Stmt:=top 66
abbrev wN:Stmt:=top 67
abbrev sG:Stmt:=top 68
abbrev zw:Stmt:=top 69
abbrev rf:Stmt:=top 70
abbrev uR:Stmt:=top 71
abbrev OZ:Stmt:=top 72
theorem Ej:jg ["thing"] ["thing"] (iX zl):=by trivial
theorem mB:jg ["a","b"] ["a","b"] (iX pB):=by trivial
theorem zx:jg ["thing","top","bottom"] ["thing"] (iX sE):=by trivial
theorem vR:jg ["thing","many"] ["thing","many"] (iX ql):=by trivial
theorem wO:jg ["top","bottom","divisor"] ["top","bottom"] (iX zm):=by trivial
theorem NK:jg ["one","other"] ["one","other"] (iX Ly):=by trivial
theorem LC:jg ["one","other"] ["one","other"] (iX Hm):=by trivial
theorem LD:jg ["one","other"] ["one","other"] (iX Hn):=by trivial
theorem zy:jg ["fractions","whole","one"] ["fractions"] (iX Ho):=by trivial
theorem nQ:jg ["rows","table","former","at","lead"] ["rows"] (iX Eg):=by trivial
theorem FQ:jg ["row","lead","at","former"] ["row","lead","at","former"] (iX AO):=by trivial
theorem Ek:jg ["many","thing"] ["many","thing"] (iX zo):=by trivial
theorem IM:jg ["many","thing","a","b"] ["many","thing"] (iX Eh):=by trivial
theorem B6:jg ["things"] ["things"] (iX wo):=by trivial
theorem tf:jg ["ties","place","lesser","greater"] ["ties","place"] (iX AQ):=by trivial
theorem mC:jg ["ties","start","found","edge","beyond","place","near"] ["ties","start"] (iX wq):=by trivial
theorem FR:jg ["web","many","ties"] ["web"] (iX AR):=by trivial
theorem IP:jg ["thing","many","ties"] ["thing"] (iX Ei):=by trivial
theorem B7:jg ["thing"] ["thing"] (iX wu):=by trivial
theorem zA:jg ["web","thing"] ["web","thing"] (iX sF):=by trivial
theorem B8:jg ["a","b"] ["a","b"] (iX wx):=by trivial
theorem Aa:jg ["web","a","b"] ["web","a","b"] (iX uO):=by trivial
theorem LF:jg ["web","a","b"] ["web","a","b"] (iX Hq):=by trivial
theorem El:jg ["web","given","added"] ["web","given","added"] (iX zq):=by trivial
theorem rg:jg ["web","place","given","added","many","ties","row","near","other"] ["web","place","given","added"] (iX zr):=by trivial
theorem LG:jg ["web","goal"] ["web","goal"] (iX Hr):=by trivial
theorem vS:jg ["web","one","other"] ["web","one","other"] (iX qm):=by trivial
theorem oW:jg ["web","stream","place","goes","comes"] ["web","stream","place"] (iX uP):=by trivial
theorem uS:jg ["web","a","b","thing","many","ties","more"] ["web","a","b","thing"] (iX wy):=by trivial
theorem NL:jg ["web","a","b","stream"] ["web","a","b","stream"] (iX Lz):=by trivial
theorem FT:jg ["web","a","b"] ["web","a","b"] (iX AS):=by trivial
theorem Ht:jg ["web","a","b","high"] ["web","a","b"] (iX LA):=by trivial
theorem uT:jg ["web","a","b","high"] ["web","a","b"] (iX wz):=by trivial
theorem B9:jg ["web","a","b","thing"] ["web","a","b","thing"] (iX wG):=by trivial
theorem Hu:jg ["web","levels","falls"] ["web","levels"] (iX LB):=by trivial
theorem Em:jg ["web","a","b","thing","stream","levels"] ["web","a","b","thing"] (iX zt):=by trivial
theorem LH:jg ["web","a","b","paper","stream","levels","top","bottom"] ["web","a","b","paper"] (iX Hs):=by trivial
theorem uU:jg ["web","a","b","stream"] ["web","a","b"] (iX wH):=by trivial
theorem xf:jg ["_law_script","_law_k"] ["_law_script","_law_k"] (iX rb):=by trivial
theorem mU:jg ["_law_cell","_law_number","_law_j","_law_mixed"] ["_law_cell"] (iX zu):=by trivial
theorem nH:jg ["_law_pot_here","_law_far_here","_law_found"] ["_law_pot_here","_law_far_here"] (iX wI):=by trivial
theorem pY:jg ["_law_top","_law_bottom","_law_one","_law_other"] ["_law_top","_law_bottom"] (iX AU):=by trivial
theorem B_:jg ["_law_one","_law_other"] ["_law_one","_law_other"] (iX wJ):=by trivial
theorem Ca:jg ["_law_one","_law_other"] ["_law_one","_law_other"] (iX wK):=by trivial
theorem Ab:jg ["_law_one","_law_other"] ["_law_one","_law_other"] (iX uQ):=by trivial
theorem Cb:jg ["_law_web_here","_law_place"] ["_law_web_here","_law_place"] (iX wL):=by trivial
theorem jV:jg ["_law_pot_here","_law_most","_law_thick","_law_many","_law_shape","_law_extra","_law_left","_law_called","_law_ties","_law_place","_law_drawn_one","_law_turn","_law_one","_law_other"] ["_law_pot_here","_law_most","_law_thick"] (iX s_):=by trivial
theorem wQ:jg ["_law_web_here","_law_first","_law_found","_law_lap","_law_place","_law_other"] ["_law_web_here","_law_first"] (iX zv):=by trivial
theorem pD:jg ["_law_pot_here","_law_top"] ["_law_pot_here"] (iX qo):=by trivial
theorem pZ:jg ["_law_web_here","_law_places","_law_found","_law_one","_law_other","_law_at"] ["_law_web_here","_law_places"] (iX wM):=by trivial
theorem nI:jg ["_law_pot_here","_law_web_here","_law_a","_law_b","_law_found","_law_turn","_law_some","_law_far_here"] ["_law_pot_here","_law_web_here","_law_a","_law_b"] (iX wN):=by trivial
theorem lh:jg ["_law_pot_here","_law_web_here","_law_a","_law_b","_law_share","_law_one","_law_other","_law_rest"] ["_law_pot_here","_law_web_here","_law_a","_law_b"] (iX sG):=by trivial
theorem wR:jg ["_law_pot_here","_law_web_here","_law_a"] ["_law_pot_here","_law_web_here"] (iX zw):=by trivial
theorem xg:jg ["_law_one","_law_other"] ["_law_one","_law_other"] (iX rf):=by trivial
theorem kr:jg ["_law_pot_here","_law_web_here","_law_a","_law_b","_law_number","_law_both","_law_most","_law_paper","_law_levels","_law_stream_here","_law_low","_law_high"] ["_law_pot_here","_law_web_here","_law_a","_law_b"] (iX uR):=by trivial
theorem zB:jg ["_law_script","_law_k","_law_pot_here","_law_web_here","_law_tree","_law_a","_law_b","_law_third"] ["_law_script"] (iX OZ):=by trivial
set_option genInjectivity false in
set_option genSizeOf false in
structure Txt (K:iF)(mg:iq) where
 mP:FnT K mg "is_whole" zl ["thing"]
 lE:FnT K mg "common_divisor" pB ["a","b"]
 oX:FnT K mg "is_fraction" sE ["thing"]
 lR:FnT K mg "are_fractions" ql ["thing","many"]
 mQ:FnT K mg "fraction" zm ["top","bottom"]
 FU:FnT K mg "plus" Ly ["one","other"]
 uV:FnT K mg "minus" Hm ["one","other"]
 xC:FnT K mg "times" Hn ["one","other"]
 rZ:FnT K mg "total" Ho ["fractions"]
 zC:FnT K mg "solved" Eg ["rows"]
 vT:FnT K mg "cleared" AO ["row","lead","at","former"]
 nZ:FnT K mg "is_place" zo ["many","thing"]
 zD:FnT K mg "is_tie" Eh ["many","thing"]
 rh:FnT K mg "is_rising" wo ["things"]
 pE:FnT K mg "tied_to" AQ ["ties","place"]
 oG:FnT K mg "distances" wq ["ties","start"]
 vU:FnT K mg "degrees" AR ["web"]
 zE:FnT K mg "is_web" Ei ["thing"]
 mV:FnT K mg "check_web" wu ["thing"]
 ku:FnT K mg "check_place" sF ["web","thing"]
 rn:FnT K mg "check_two" wx ["a","b"]
 mD:FnT K mg "check_ends" uO ["web","a","b"]
 Cc:FnT K mg "apart" Hq ["web","a","b"]
 n_:FnT K mg "balanced" zq ["web","given","added"]
 tj:FnT K mg "equation" zr ["web","place","given","added"]
 xD:FnT K mg "means" Hr ["web","goal"]
 ny:FnT K mg "chances_ahead" qm ["web","one","other"]
 p_:FnT K mg "more_going" uP ["web","stream","place"]
 mW:FnT K mg "is_stream" wy ["web","a","b","thing"]
 zF:FnT K mg "cost" Lz ["web","a","b","stream"]
 pF:FnT K mg "heights" AS ["web","a","b"]
 Cd:FnT K mg "even" LA ["web","a","b"]
 kF:FnT K mg "hindrance" wz ["web","a","b"]
 rq:FnT K mg "is_levels" wG ["web","a","b","thing"]
 FV:FnT K mg "drop" LB ["web","levels"]
 qa:FnT K mg "is_paper" zt ["web","a","b","thing"]
 xE:FnT K mg "shows" Hs ["web","a","b","paper"]
 rz:FnT K mg "paper_for" wH ["web","a","b"]
 oa:FnT K mg "_law_cell_at" rb ["_law_script","_law_k"]
 tE:FnT K mg "_law_pot" zu ["_law_cell"]
 jv:FnT K mg "_law_take" wI ["_law_pot_here","_law_far_here"]
 nR:FnT K mg "_law_fr" AU ["_law_top","_law_bottom"]
 mX:FnT K mg "_law_plus" wJ ["_law_one","_law_other"]
 rC:FnT K mg "_law_less" wK ["_law_one","_law_other"]
 mE:FnT K mg "_law_times" uQ ["_law_one","_law_other"]
 mY:FnT K mg "_law_near" wL ["_law_web_here","_law_place"]
 og:FnT K mg "_law_web" s_ ["_law_pot_here","_law_most","_law_thick"]
 tF:FnT K mg "_law_far" zv ["_law_web_here","_law_first"]
 lS:FnT K mg "_law_fraction" qo ["_law_pot_here"]
 oH:FnT K mg "_law_flow" wM ["_law_web_here","_law_places"]
 oJ:FnT K mg "_law_walk" wN ["_law_pot_here","_law_web_here","_law_a","_law_b"]
 oY:FnT K mg "_law_stream" sG ["_law_pot_here","_law_web_here","_law_a","_law_b"]
 qb:FnT K mg "_law_two" zw ["_law_pot_here","_law_web_here"]
 lj:FnT K mg "_law_no_less" rf ["_law_one","_law_other"]
 qc:FnT K mg "_law_right" uR ["_law_pot_here","_law_web_here","_law_a","_law_b"]
 Hv:FnT K mg "law" OZ ["_law_script"]
 ko:mg "isinstance"=none
 nD:mg "len"=none
 Hw:mg "all"=none
 Hx:mg "abs"=none
 Hy:mg "min"=none
 Hz:mg "max"=none
 V8:mg "sum"=none
 Eo:mg "sorted"=none
 lT:mg "tuple"=none
 Tf:mg "int"=none
 Q3:mg "bool"=none
 kq:mg "range"=none
 AV:mg "zip"=none
 Tg:mg "set"=none
 LI:mg "list"=none
 Ep:mg "enumerate"=none
 FW:CtT K mg "ZERO" AE
 O1:CtT K mg "ONE" MV
 xh:CtT K mg "FEWEST_PLACES" (.int 2)
 Ac:CtT K mg "MOST_PLACES" (.int 8)
section
variable {P:Program}{w:World}{K:iF}{mg:iq}{base:Heap}
theorem oK (T:Txt K mg):OkT P w base T.mP 1 (spD K 1 k9):=T.mP.okD (g:=yy) Ej (λ _ _ _ _ _ _ hr=>(i9 (jm (ua (jx wd T.ko boot_isinstance (iK (dv 0) (iK (C5 T.Tf boot_int) iS))) (wa (R_ (jx wd T.ko boot_isinstance (iK (dv 0) (iK (C5 T.Q3 boot_bool) iS))))))))) Dv
theorem rE (T:Txt K mg):OkT P w base T.nZ 2 (spD K 2 mM):=T.nZ.okD (g:=sO) Ek (λ _ _ _ _ _ _ hr=>(i9 (jm (ua (dC T.mP (oK T) hr (iK (dv 1) iS)) (wa (MG Qg Kf ji (dv 1) (dv 0))))))) DD
theorem IQ (T:Txt K mg):OkT P w base T.zD 3 (spD K 2 qO):=T.zD.okD (g:=yC) IM (λ _ _ _ _ _ _ hr=>(je (lH (w9 (oy (kH (kI (jx wd T.ko boot_isinstance (iK (dv 1) (iK (C5 T.lT boot_tuple) iS))))) (nc (jK (r9 (jh hr)) (jx qK T.nD bT (iK (dv 1) iS)) ji)))) (i9 (jm qG)) jR) (je (oQ (dv 1) (jS rfl (jc (pgo 2) (jc (pgo 3) jH))) j9) (i9 (jm (ua (dC T.nZ (rE T) hr (iK (dv 0) (iK (dv 2) iS))) (ua (dC T.nZ (rE T) hr (iK (dv 0) (iK (dv 3) iS))) (wa (qH Kf (dv 2) (dv 3)))))))))) IA
theorem Ce (T:Txt K mg):OkT P w base T.rh 1 (spD K 1 mS):=T.rh.okD (g:=qP) B6 (λ _ _ _ _ _ _ hr=>(i9 (jm (jx (GV rfl) T.Hw boot_all (iK (r8 rfl (csc ["one","following"] [] []) (Dq true true T.AV (iK (dv 0) (iK (UY (dv 0)) iS))) (λ _ _ _ _=>(jS rfl (jc (pgo 0) (jc (pgo 1) jH)))) (mj (jE (by decide) (jE (by decide) lC))) j9 (λ _ _ _ _=>lW) (λ _ _ _ _=>(qH (Sm (M8 hr)) (dv 0) (dv 1)))) iS))))) Bx
theorem tG (T:Txt K mg):OkT P w base T.pE 1 (spD K 2 l7):=T.pE.okD (g:=rS) tf (λ _ _ _ _ _ _ hr=>(je (AB (i:=2) tf.nd rfl (csc ["a","b"] ["place"] [1]) (nV (dv 0)) (λ _ _ _ _=>(jS rfl (jc (pgo 0) (jc (pgo 1) jH)))) (mj (jE (by decide) (jE (by decide) lC))) j9 (λ _ _ _ _=>(sL (jK (ug (jh hr)) (dv 1) (dv 2)))) (λ _ _ _ _=>(dv 0))) (je (AB (i:=3) tf.nd rfl (csc ["a","b"] ["place"] [1]) (nV (dv 0)) (λ _ _ _ _=>(jS rfl (jc (pgo 0) (jc (pgo 1) jH)))) (mj (jE (by decide) (jE (by decide) lC))) j9 (λ _ _ _ _=>(sL (jK (ug (jh hr)) (dv 0) (dv 2)))) (λ _ _ _ _=>(dv 1))) (i9 (jm (o7 uj T.lT boot_tuple (iK (jx (Kx srt Ds Fh) T.Eo boot_sorted (iK (kC Kq (dv 2) (dv 3)) iS)) iS))))))) Fq
theorem FX (T:Txt K mg):OkT P w base T.vU 2 (spD K 1 rR):=T.vU.okD (g:=vH) FR (λ _ _ _ _ _ _ hr=>(je (oQ (dv 0) (jS rfl (jc (pgo 1) (jc (pgo 2) jH))) j9) (i9 (jm (r8 rfl (csc ["place"] ["ties"] [2]) (pO T.kq (iK (dv 1) iS)) (λ _ _ _ _=>(pgo 0)) jX kS (λ _ _ _ _=>lW) (λ _ _ _ _=>(jx qK T.nD bT (iK (dC T.pE (tG T) hr (iK (dv 1) (iK (dv 0) iS))) iS)))))))) Fs
end
abbrev iV (k:Nat):V:=.int k
section
variable {P:Program}{w:World}{K:iF}{mg:iq}{base:Heap}
structure DH (H0 H:Hp)(p e b:Addr)(st:iI×List Nat)(jq:List Nat):Prop where
 same:iZ H0 H
 np:H0 p=none
 ne':H0 e=none
 nb:H0 b=none
 pe:p≠e
 pb:p≠b
 eb:e≠b
 hp:H p=some (.dK (kvD (j5 st.1)))
 he:H e=some (.lst (jq.map iV))
 hb:H b=some (.lst (st.2.map iV))
theorem DH.ext {H0 H H':Hp}{p e b:Addr}{st:iI×List Nat}{jq:List Nat}(h:DH H0 H p e b st jq)(s:iZ H H'):DH H0 H' p e b st jq :=
 ⟨h.same.trans s,h.np,h.ne',h.nb,h.pe,h.pb,h.eb,s _ _ h.hp,s _ _ h.he,s _ _ h.hb⟩
theorem kO {H0 H:Hp}{p:Addr}{o:HO}(s:iZ H0 H)(n:H0 p=none):iZ H0 (upd H p o):=λ c u h=>by rw[ja (jn h n)];exact s c u h
def dbI (K:iF):TS:=HR (tB (Gm (jj 6) (jj 2))) (jO (Ot (jj 2) (jj 6) (tOp (rI0 λ i j=>V.int (i+j)) (Oq (jj 2) (jj 5)) (tC (V.int 1)))) (Aj (tBM K "list" rL (jj 4) (i_ (jj 6) jG)))) Ai
def dbM (K:iF):TS:=wX (iDT K (gI ud (iT 2 l7 (iL (iN 0) (iL (iN 5) iQ))))) (jt 6) (dbI K)
def dbW (K:iF):TS:=jO (kP (xQ jG) (jt 4)) (jO (wX (Ga K (jj 3)) (jt 5) (dbM K)) (kP (jj 4) (jt 3)))
def dtW (K:iF):TT:=λ σ H Q=>jj 3 σ H λ x H'=>∃ k,Jw K x H' k/\Q k H'
def dA (K:iF):TS:=jO (kP (Ou [(jj 1,tC (V.int 0))]) (jt 2)) (jO (kP (xQ (i_ (jj 1) jG)) (jt 3)) (jO (A5 (dtW K) (dbW K)) (zP (jj 2))))
abbrev sgD (vt:V)(st:Nat)(p e:Addr)(b pl nr:iA V):L2.St:=[some vt,some (iV st),some (.ref p),some (.ref e),b,pl,nr]
theorem NM {D:Ends}{vt:V}{st place near:Nat}{p e b:Addr}{H H6:Hp}{st2:iI×List Nat}{jq:List Nat}(d6:DH H H6 p e b st2 jq)(hpk2:place∈st2.1.map (·.1))(l1:st2.1.length<=10000)(l2:st2.2.length<=10000)
  (h:∀ H',DH H H' p e b (jI place st2 near) jq->jY H6 H'->D.nx (sgD vt st p e (some (.ref b)) (some (iV place)) (some (iV near))) H'):dbI K D (sgD vt st p e (some (.ref b)) (some (iV place)) (some (iV near))) H6:=by
 refine⟨_,rfl,_,rfl,p,_,rfl,tT.k (k:=Sum.inl (near:Int)) d6.hp,_,rfl,?_⟩;rw[uu];cases hk:oA st2.1 near with
 | true =>
  rw[af rfl];refine JI ?_;have:jI place st2 near=st2:=by unfold jI;rw[af hk]
  rw[this]at h;exact h H6 d6 jY.refl
 | false =>
  rw[ah aI];refine EV ?_;have hv:jI place st2 near=(st2.1++[(near,look st2.1 place+1)],st2.2++[near]):=by unfold jI;rw[ah (by rw[hk];exact aI)]
  rw[hv]at h;have hlook:nE (kvD (j5 st2.1)) (Sum.inl (place:Int))=some (.int (look st2.1 place)):=by rw[uu,af ((nK _ _).mpr hpk2)]
  have g1:tT H6 p (iV place) (some (.int (look st2.1 place))):=by rw[<-hlook];exact tT.k (k:=Sum.inl (place:Int)) d6.hp
  have hll:(kvD (j5 st2.1)).length<sizeLine:=by
   have:(kvD (j5 st2.1)).length=st2.1.length:=by simp[kvD,j5]
   rw[sizeLine_eq];lia
  refine⟨_,rfl,_,rfl,p,_,rfl,g1,_,_,rfl,rfl,_,rfl,_,rfl,p,_,rfl,JE.k (k:=Sum.inl (near:Int)) d6.hp hll,?_⟩;have hput:putK (kvD (j5 st2.1)) (Sum.inl (near:Int)) (V.int ((look st2.1 place:Int)+1))=kvD (j5 (st2.1++[(near,look st2.1 place+1)])):=by rw[<-KL _ hk];rfl
  rw[hput];have hbb:upd H6 p (.dK (kvD (j5 (st2.1++[(near,look st2.1 place+1)])))) b=some (.lst (st2.2.map iV)):=by rw[ja (aX d6.pb)];exact d6.hb
  refine⟨_,rfl,.inl ⟨rfl,_,SqL.of hbb⟩,_,rfl,b,_,_,rfl,rfl,hbb,by rw[ag,sizeLine_eq];lia,h _ ⟨kO (kO d6.same d6.np) d6.nb,d6.np,d6.ne',d6.nb,d6.pe,d6.pb,d6.eb,?_,?_,?_⟩ ((jY.upd (by rw[d6.hp];trivial)).trans (jY.upd (by rw[hbb];trivial)))⟩
  ·rw[ja d6.pb];exact iU
  ·rw[ja d6.eb,ja (aX d6.pe)];exact d6.he
  ·rw[iU];simp[iV]
theorem Vz {K:iF}{H:Hp}:Sat K H [] []:=⟨rfl,λ _ _ h=>by cases h⟩
theorem LJ {K:iF}{H:Hp}{x:iA V}{σ:L2.St}{δ:DE}(h:Sat K H σ δ):Sat K H (x::σ) (none::δ):=⟨cK (·+1) h.len,λ j d hj=>by
 cases j with
 | zero=>cases hj
 | succ j=>exact h.at_ j d hj⟩
theorem Th {K:iF}{H:Hp}{v:V}{d:Dt}{σ:L2.St}{δ:DE}(i:Is K H v d)(h:Sat K H σ δ):Sat K H (some v::σ) (some d::δ):=⟨cK (·+1) h.len,λ j d hj=>by
 cases j with
 | zero=>cases hj;exact⟨_,rfl,i⟩
 | succ j=>exact h.at_ j d hj⟩
theorem LK {K:iF}{H':Hp}{vt:V}{st place:Nat}{p e:Addr}{b nr:iA V}{x:Dt}(i:Is K H' vt x):Sat K H' (sgD vt st p e b (some (iV place)) nr) [some x,none,none,none,none,some (iM place),none] :=
 Th i (LJ (LJ (LJ (LJ (Th (.int _) (LJ Vz))))))
theorem LL {D:Ends}{vt:V}{st place:Nat}{p e b:Addr}{nr:iA V}{H H':Hp}{l:iI}{st1:iI×List Nat}{jq:List Nat}{x:Dt}(ex:dTs x=some l)(hlen:l.length<=30)(i1:Is K H' vt x)(d1:DH H H' p e b st1 jq)(bi1:BI (univ l st) st1)(hpk:place∈st1.1.map (·.1))(hl1:st1.2.length<=st1.1.length)
  (h:∀ nr H6,DH H H6 p e b (visit l st1 place) jq->jY H' H6->D.nx (sgD vt st p e (some (.ref b)) (some (iV place)) nr) H6):dbM K D (sgD vt st p e (some (.ref b)) (some (iV place)) nr) H':=by
 have tk:=DF ex hlen place;refine⟨_,(nb l place).map iM,LK i1,?_,oP.of (λ d hd=>by obtain⟨t,_,rfl⟩:=aD.mp hd;exact .int _),λ J H5 s5 ok=>?_⟩
 ·generalize (nb l place).map iM=zs at tk;simp only[iM]at tk;simp[tk,ud,iM]
 ·have d5:=d1.ext s5
  refine DL ok (λ j σ' H'=>∃ (nr:iA V),σ'=sgD vt st p e (some (.ref b)) (some (iV place)) nr/\DH H H' p e b (((nb l place).take j).foldl (jI place) st1) jq/\jY H5 H')
   ⟨nr,rfl,d5,jY.refl⟩ (λ j σ' H' _ z=>by obtain⟨_,_,_,t⟩:=z;exact t) ?_ ?_
  ·rintro j dd xv σ' H6 hj ixv ⟨nr,rfl,d6,t6⟩
   rw[ax]at hj;cases hnr:(nb l place)[j]? with
   | none=>rw[hnr]at hj;cases hj
   | some near =>
    rw[hnr]at hj;cases hj;have hx:=ixv.int_inv;subst hx;have hst3:((nb l place).take (j+1)).foldl (jI place) st1=jI place (((nb l place).take j).foldl (jI place) st1) near:=by rw[eT,hnr,List.foldl_append];rfl
    have hpk2:=nM (f:=jI place) (λ st p k hk=>qR hk) ((nb l place).take j) st1 place hpk;have bi2:BI (univ l st) (((nb l place).take j).foldl (jI place) st1):=uv _ (λ x hx _ hs=>AG hs (G0 (List.mem_of_mem_take hx))) bi1;have hl2:=qS (f:=jI place) (λ _ _=>yG) ((nb l place).take j) st1;have hle:=bi2.le;rw[uw]at hle;generalize ((nb l place).take j).foldl (jI place) st1=st2 at d6 hst3 hpk2 hl2 hle;refine NM d6 hpk2 (by lia) (by lia) λ H7 d7 t7=>⟨_,rfl,?_,t6.trans t7⟩;rw[hst3];exact d7
  ·rintro σ' H6 ⟨nr,rfl,d6,t6⟩;rw[ag,fu]at d6;exact h _ _ d6 (s5.text.trans t6)
theorem FY {D:Ends}{vt:V}{st:Nat}{p e:Addr}{b0 pl0 nr0:iA V}{H H2:Hp}{l fd:iI}{jq:List Nat}{x:Dt}(ex:dTs x=some l)(hlen:l.length<=30)(i1:Is K H vt x)(s2:iZ H H2)(hp:H p=none)(he:H e=none)(hpe:p≠e)
  (gp:H2 p=some (.dK (kvD (j5 fd)))) (ge:H2 e=some (.lst (jq.map iV))) (bi:BI (univ l st) (fd,jq))
  (h:∀ b pl nr H',iZ H H'->H b=none->p≠b->H' p=some (.dK (kvD (j5 (kh l fd jq).1)))->H' b=some (.lst ((kh l fd jq).2.map iV))->D.nx (sgD vt st p b (some (.ref b)) pl nr) H'):dbW K D (sgD vt st p e b0 pl0 nr0) H2:=by
 refine⟨bg _,λ b hb=>?_⟩;have hbp:p≠b:=λ z=>by subst z;rw[hb]at gp;cases gp
 have hbe:e≠b:=λ z=>by subst z;rw[hb]at ge;cases ge
 have hb0:H b=none:=s2.free hb;have d0:DH H (upd H2 b (.lst [])) p e b (fd,[]) jq:=⟨kO s2 hb0,hp,he,hb0,hpe,hbp,hbe,by rw[ja hbp];exact gp,by rw[ja hbe];exact ge,iU⟩;refine⟨_,rfl,e,rfl,⟨_,SqL.of d0.he⟩,CG (K:=K) (a:=e) (xs:=jq.map iV) (λ i σ' H'=>∃ (pl nr:iA V),σ'=sgD vt st p e (some (.ref b)) pl nr/\DH H H' p e b ((jq.take i).foldl (visit l) (fd,[])) jq/\jY H H')
  ⟨pl0,nr0,rfl,d0,d0.same.text⟩ (λ i σ' H' _ z=>by obtain⟨_,_,_,d,_⟩:=z;exact SqL.of d.he) ?_ ?_⟩
 ·clear d0 gp ge s2
  rintro i xv σ' H' hi ⟨pl,nr,rfl,d1,t1⟩;rw[ax]at hi;cases hpl:jq[i]? with
  | none=>rw[hpl]at hi;cases hi
  | some place =>
   rw[hpl]at hi;cases hi;have hst':(jq.take (i+1)).foldl (visit l) (fd,[])=visit l ((jq.take i).foldl (visit l) (fd,[])) place:=by rw[eT,hpl,List.foldl_append];rfl
   have bi1:BI (univ l st) ((jq.take i).foldl (visit l) (fd,[])):=uv _ (λ _ _ _ hs=>DM hs) ⟨bi.nd,bi.sub,by simp⟩;have hpk:place∈((jq.take i).foldl (visit l) (fd,[])).1.map (·.1):=nM (f:=visit l) (λ st p k hk=>sP st k hk) _ (fd,[]) place (bi.by' place (a8 hpl));have hl1:=qS (f:=visit l) (λ st p=>AH st) (jq.take i) (fd,[]);generalize (jq.take i).foldl (visit l) (fd,[])=st1 at d1 hst' bi1 hpk hl1;refine LL ex hlen (i1.ext d1.same) d1 bi1 hpk (by simp at hl1;lia) λ nr H6 d6 t6=>⟨_,_,rfl,?_,t1.trans t6⟩;rw[hst'];exact d6
 ·rintro σ' H' ⟨pl,nr,rfl,d1,t1⟩;rw[ag,fu]at d1;exact⟨_,rfl,h b pl nr H' d1.same hb0 hbp d1.hp d1.hb⟩
def dI1 (vt:V)(st:Nat)(l:iI)(H:Hp):Nat->L2.St->Hp->Prop:=λ m σ H2=>∃ (fd:iI) (jq:List Nat) (p e:Addr) (b pl nr:iA V),σ=sgD vt st p e b pl nr/\iZ H H2/\H p=none/\H e=none/\p≠e/\H2 p=some (.dK (kvD (j5 fd)))/\H2 e=some (.lst (jq.map iV)) /\
  BI (univ l st) (fd,jq)/\mG l m fd jq=bfs l st/\(jq≠[]->2*l.length+3<=m+fd.length)
def dI2 (vt:V)(st:Nat)(l fd:iI)(jq:List Nat)(H:Hp):L2.St->Hp->Prop:=λ σ' H'=>∃ (p b:Addr) (pl nr:iA V),σ'=sgD vt st p b (some (.ref b)) pl nr/\iZ H H'/\H p=none/\H b=none/\p≠b/\H' p=some (.dK (kvD (j5 (kh l fd jq).1)))/\H' b=some (.lst ((kh l fd jq).2.map iV))
theorem IS {D:Ends}{vt:V}{st:Nat}{H:Hp}{l:iI}{x:Dt}(ex:dTs x=some l)(hlen:l.length<=30)(i1:Is K H vt x)(q:∀ v H',iZ H H'->Is K H' v (.dct (j5 (bfs l st)))->D.rt v H')(m:Nat)(σ:L2.St)(H2:Hp)(z:dI1 vt st l H m σ H2) :
  dtW K σ H2 λ b H1=>if b=true then ∃ N:L2.St->Hp->Prop,(∀ σ' H',N σ' H'->∃ m',m'<m/\dI1 vt st l H m' σ' H')/\dbW K {D with nx:=N,ct:=N,bk:=zP (jj 2) D} σ H1 else zP (jj 2) D σ H1:=by
 obtain⟨fd,jq,p,e,b0,pl0,nr0,rfl,s2,hp,he,hpe,gp,ge,bi,hm,hf⟩:=z;refine⟨_,rfl,!(jq.map iV).isEmpty,.inl ⟨_,SqL.of ge,rfl⟩,?_⟩;cases hedge:jq with
 | nil =>
  subst hedge;refine JI ?_;refine⟨_,rfl,q _ H2 s2 (.dct (.inl ?_))⟩;rw[<-hm];have:mG l m fd []=fd:=by cases m<;>rfl
  rw[this];exact gp
 | cons e0 es =>
  refine EV ?_;have hne:jq≠[]:=by rw[hedge];simp
  have hf:=hf hne;have hle:=bi.le;rw[uw]at hle;have hle:fd.length<=2*l.length+1:=hle;obtain⟨m',rfl⟩:∃ m',m=m'+1:=⟨m-1,by lia⟩;have hstep:mG l (m'+1) fd jq=mG l m' (kh l fd jq).1 (kh l fd jq).2:=by rw[hedge];rfl
  rw[hstep]at hm;refine⟨dI2 vt st l fd jq H,?_,?_⟩
  ·rintro σ' H' ⟨p,b,pl,nr,rfl,s3,hp,hb,hpb,gp,gb⟩;have lb:=yH (jq:=jq) (l:=l) (fd:=fd) ⟨bi.nd,bi.sub,by simp⟩;refine⟨m',by lia,_,_,p,b,some (.ref b),pl,nr,rfl,s3,hp,hb,hpb,gp,gb,⟨lb.nd,lb.sub,lb.by'⟩,hm,λ hb'=>?_⟩;have:=vJ (l:=l) (fd:=fd) (jq:=jq);have:0<(kh l fd jq).2.length:=dh.mpr hb';lia
  ·exact FY ex hlen i1 s2 hp he hpe gp ge bi λ b pl nr H' s3 hb hpb gp gb=>⟨p,b,pl,nr,rfl,s3,hp,hb,hpb,gp,gb⟩
theorem LM {D:Ends}{vt:V}{st:Nat}{H:Hp}{l:iI}{x:Dt}(ex:dTs x=some l)(hlen:l.length<=30)(i1:Is K H vt x)(q:∀ v H',iZ H H'->Is K H' v (.dct (j5 (bfs l st)))->D.rt v H'):dA K D [some vt,some (iV st),none,none,none,none,none] H:=by
 intro p hp;refine⟨_,rfl,iU,[(Sum.inl (st:Int),.int 0)],rfl,by simp,?_⟩;refine⟨_,rfl,by show 1<=sizeLine;decide,λ e he=>?_⟩;have hp0:upd (upd H p (.dK [])) p (.dK (sJ [] [(Sum.inl (st:Int),V.int 0)]))=upd H p (.dK (kvD (j5 [(st,0)]))):=by rw[Mb];rfl
 rw[hp0]at he ⊢;have hpe:p≠e:=λ z=>by subst z;rw[iU]at he;cases he
 have he0:H e=none:=by rw[ja (aX hpe)]at he;exact he
 refine⟨dI1 vt st l H,⟨2*l.length+2,[(st,0)],[st],p,e,none,none,none,rfl,kO (kO (iZ.refl H) hp) he0,hp,he0,hpe,by rw[ja hpe];exact iU,iU,⟨by simp,λ q hq=>by rw[bA.mp hq];exact ar,λ j hj=>by simpa using hj⟩,rfl,λ _=>by simp⟩,?_⟩;exact λ m σ H2 z=>IS ex hlen i1 q m σ H2 z
set_option tactic.hygienic true in
theorem uW (T : Txt K mg) : OkT P w base T.oG 2 (spD K 2 l8) := by
  refine T.oG.F.ok mC (λ vs H Q E h => ?_) (λ cdv A outer s H vs Q E hr h => ?_)
  · obtain⟨ds, d, hl, is, _⟩ := h
    rw[is.length, hl]; rfl
  · obtain⟨ds, d, hl, is, e, q⟩ := h
    match ds, e with
    | [x, y], e =>
      obtain⟨l, e1, e⟩ := iP (show(dTs x).bind _ = _ from e);obtain⟨st, e2, e⟩ := iP e;split at e
      · rename_i hlen
        cases e;have e2 := jo e2;subst e2;obtain⟨vt, v2, rfl, i1, i2⟩ := is.two;have hv2 := i2.int_inv;subst hv2;have hu := Ow hr;refine⟨dA K, iW (jC (i := 2) mC.nd rfl (Or.inl rfl) (Bd (tU (pv 1) jd Bc) rfl rfl (by simp) (by decide)))
          (iW (jC (i := 3) mC.nd rfl (Or.inl rfl) (me (iR (pv 1) jb)))
          (iW (tN bC (xO (pv 3) (λ _ => rfl))
            (iW (jC (i := 4) mC.nd rfl (Or.inl rfl) (me jb))
            (iW (mI bC rfl (xk (pv 3)) (pgo 5)
              (jw (mI bC rfl (GZ (dC T.pE (tG T) hr (iK (dv 0) (iK (dv 5) iS)))) (pgo 6)
                (jw (vW (Jn (HZ hu (pv 6) (pv 2)) (by with_unfolding_all rfl)) (iW (Ms hu (pv 2) (pv 6) (jP m7 (Gn hu (pv 2) (pv 5) (λ _ _ => rfl)) jd) rfl)
                  (jw (rK (Ao cT dM dN o5 (pv 4) (iR (pv 6) jb))))) ou)))))
            (jw (jC (i := 3) mC.nd rfl (Or.inl rfl) (pv 4))))))
          (jw (lI (pv 2))))), ?_⟩
        exact LM e1 (by lia) i1 q
      · cases e
end
section
variable {P:Program}{w:World}{K:iF}{mg:iq}{base:Heap}
def LN (K:iF):Sp:=λ vs H Q _=>∃ (a:Addr) (ns:List Int) (k:Nat),vs=[.ref a,.int k]/\SqL K H a (ns.map V.int)/\ns.length<=63/\∀ c,Q (.int c) H
theorem NN (T:Txt K mg):OkT P w base T.oa 1 (LN K):=by
 refine T.oa.F.ok xf (λ vs H Q E h=>?_) (λ cdv A outer s H vs Q E hr h=>?_)
 ·obtain⟨a,ns,k,rfl,_⟩:=h;rfl
 ·obtain⟨a,ns,k,rfl,hS,hl,q⟩:=h
  refine⟨_,iW (vW (xl Oe (pv 1) (lK mf (by rfl) T.nD bT (iR (pv 0) jb)) (xM _)) (jw (lI (kW kG (pv 0) (pv 1) (λ _ _=>rfl)))) ou) (jw (lI jd)),?_⟩;refine⟨_,rfl,_,rfl,a,_,rfl,.inl hS,_,_,rfl,rfl,_,rfl,?_⟩;refine PU (λ hc=>?_) (λ _=>q 0);have hk:k<ns.length:=by have:=of_decide_eq_true hc;rw[ag]at this;lia
  exact⟨_,rfl,_,rfl,a,_,_,.int ns[k],rfl,rfl,hS,by unfold atI ixN;rw[af (by lia),af (by rw[ag];lia)];simp[hk],q _⟩
def nz:Sp:=λ vs H Q _=>∃ (p:Addr) (n far:Int),vs=[.ref p,.int far]/\H p=some (.lst [.int n])/\0<far/\far<1073741824/\Q (.int (n % far)) (upd H p (.lst [.int (n / far)]))
theorem lU (T:Txt K mg):OkT P w base T.jv 1 nz:=by
 refine T.jv.F.ok nH (λ vs H Q E h=>?_) (λ cdv A outer s H vs Q E hr h=>?_)
 ·obtain⟨p,n,far,rfl,_⟩:=h;rfl
 ·obtain⟨p,n,far,rfl,hp,h0,h1,q⟩:=h
  refine⟨_,iW (jC (i:=2) nH.nd rfl (Or.inl rfl) (jP vf (kW kG (pv 0) jd (λ _ _=>rfl)) (pv 1)))
   (iW (m6 (jP Mj (kW kG (pv 0) jd (λ _ _=>rfl)) (pv 1)) (oO (pv 0) jd set_list))
   (jw (lI (pv 2)))),?_⟩
  refine⟨_,rfl,p,_,_,.int n,rfl,rfl,SqL.of hp,rfl,_,rfl,_,_,rfl,rfl,h0,?_⟩;refine⟨_,rfl,p,_,_,.int n,rfl,rfl,SqL.of hp,rfl,_,rfl,_,_,rfl,rfl,⟨h0,h1⟩,_,rfl,p,_,_,0,rfl,rfl,hp,rfl,_,rfl,?_⟩;exact q
def O2:Sp:=λ vs H Q _=>∃ c:Int,vs=[.int c]/\∀ (p:Addr) (n:Int),H p=none->Q (.ref p) (upd H p (.lst [.int n]))
theorem Q4 (T:Txt K mg):OkT P w base T.tE 1 O2:=by
 refine T.tE.F.ok mU (λ vs H Q E h=>?_) (λ cdv A outer s H vs Q E hr h=>?_)
 ·obtain⟨c,rfl,_⟩:=h;rfl
 ·obtain⟨c,rfl,q⟩:=h
  refine⟨_,iW (vW (xl Oh (pv 0) (jP vg jd jd) (xM _)) (jw (lI (me (iR (jP ve (pv 0) (jP vg jd jd)) jb)))) ou)
   (iW (jC (i:=1) mU.nd rfl (Or.inl rfl) jd)
   (iW (mI bC rfl (lu rfl T.kq (iR jd jb)) (pgo 2)
    (iW (jC (i:=3) mU.nd rfl (Or.inl rfl) (jP vf (jP sI (jP m7 (jP m7 (jP vf (pv 0) jd) (jP sI jd (pv 2))) jd) jd) jd))
    (iW (jC (i:=3) mU.nd rfl (Or.inl rfl) (jP vf (jP m7 (jP m7 (jP sI (pv 3) (pv 3)) (jP sI jd (pv 2))) jd) jd))
    (jw (jC (i:=1) mU.nd rfl (Or.inl rfl) (jP m7 (jP sI (pv 1) jd) (pv 3)))))))
   (jw (lI (me (iR (pv 1) jb)))))),?_⟩
  refine⟨_,rfl,_,_,rfl,rfl,⟨by decide,by decide,by decide⟩,_,_,rfl,rfl,_,rfl,?_⟩;refine PU (λ _=>?_) (λ _=>?_)
  ·exact⟨_,rfl,_,_,rfl,rfl,⟨by decide,by decide,by decide⟩,_,_,rfl,rfl,by show 1<=sizeLine;decide,λ l hl=>q l _ hl⟩
  ·refine⟨64,rfl,by decide,by decide,mJ (n:=64) (λ i σ H'=>H'=H/\∃ (n:Int) (a b:iA V),σ=[some (.int c),some (.int n),a,b]) ⟨rfl,0,none,none,rfl⟩ ?_ ?_⟩
   ·rintro i σ H' hi ⟨rfl,n,a,b,rfl⟩
    refine⟨_,rfl,_,_,rfl,rfl,(by show(0:Int)<2147483629;decide),_,rfl,_,_,rfl,rfl,.inl ⟨by decide,by decide⟩,_,_,rfl,rfl,_,_,rfl,rfl,_,_,rfl,rfl,.inr ⟨by decide,by decide⟩,_,_,rfl,rfl,(by show(0:Int)<2147483647;decide),?_⟩;generalize hmx:((c % 2147483629+7919*(0+(i:Int))+1)*48271) % 2147483647=mx;have h0:0<=mx:=by rw[<-hmx];exact bX _ (by decide)
    have h1:mx<2147483647:=by rw[<-hmx];exact cC _ (by decide)
    refine⟨_,rfl,_,rfl,_,_,rfl,rfl,.inl ⟨by lia,by lia⟩,_,rfl,_,_,rfl,rfl,.inl ⟨by decide,by decide⟩,_,_,rfl,rfl,_,_,rfl,rfl,_,_,rfl,rfl,(by show(0:Int)<2147483587;decide),?_⟩;refine⟨_,rfl,_,_,rfl,rfl,.inr ⟨by decide,by decide⟩,_,rfl,_,_,rfl,rfl,?_⟩;exact⟨rfl,_,_,_,rfl⟩
   ·rintro σ H' ⟨rfl,n,a,b,rfl⟩;exact⟨_,rfl,by show 1<=sizeLine;decide,λ l hl=>q l _ hl⟩
end
def But (p:Addr)(H H':Hp):Prop:=∀ b o,H b=some o->b≠p->H' b=some o
theorem But.refl (p:Addr)(H:Hp):But p H H:=λ _ _ h _=>h
theorem But.zG {p:Addr}{H H':Hp}{o:HO}(h:But p H H'):But p H (upd H' p o):=λ b u e n=>by rw[ja n];exact h b u e n
theorem But.new {p q:Addr}{H H':Hp}{o:HO}(h:But p H H')(hq:H q=none):But p H (upd H' q o):=λ b u e n=>by rw[ja (jn e hq)];exact h b u e n
theorem But.none {p q:Addr}{H H':Hp}(h:But p H H')(hn:H' q=none)(hp:q≠p):H q=none:=by
 cases e:H q with
 | none=>rfl
 | some o=>rw[h q o e hp]at hn;cases hn
theorem zH {α:Type}:∀ (L:List α) {j:Nat} (h:j<L.length),(L[j]::L.eraseIdx j).Perm L
 | a::r,0,h=>.refl _
 | a::r,j+1,h=>by have ih:=zH r (j:=j) (by simpa using h);show(r[j]'(by simpa using h)::a::r.eraseIdx j).Perm (a::r);exact(List.Perm.swap _ _ _).trans (ih.cons a)
theorem AW {α β:Type}(f:α->β):∀ (L:List α) (j:Nat),(L.map f).eraseIdx j=(L.eraseIdx j).map f
 | [],_=>rfl
 | a::r,0=>rfl
 | a::r,j+1=>by show f a::(r.map f).eraseIdx j=f a::(r.eraseIdx j).map f;rw[AW f r j]
theorem O3 {xs:List Nat}{j:Nat}(h:j<xs.length):atI (xs.map iV) (j:Int)=some (iV (xs.getD j 0)):=by refine lx ?_;rw[ax,au,aC h];rfl
def TN (H:Hp)(vs:List V)(l:iI):Prop:=Ij H vs (l.map λ t=>[(t.1:Int),(t.2:Int)])
theorem TN.text {H H':Hp}{vs:List V}{l:iI}(h:TN H vs l)(e:jY H H'):TN H' vs l:=Paired.imp' (λ _ _ ⟨b,e1,e2⟩=>⟨b,e1,e.tK _ _ e2⟩) h
theorem TN.len {H:Hp}{vs:List V}{l:iI}(h:TN H vs l):vs.length=l.length:=by have:=f_ h;simpa using this
theorem TN.snoc {H:Hp}{vs:List V}{l:iI}{b:Addr}{t:Nat×Nat}(h:TN H vs l)(hb:H b=some (.tup [.int t.1,.int t.2])):TN H (vs++[.ref b]) (l++[t]):=by unfold TN at *;rw[a7];exact Paired.snoc h ⟨b,rfl,hb⟩
theorem TN.get {H:Hp}{vs:List V}{l:iI}(h:TN H vs l){i:Nat}{v:V}(e:vs[i]?=some v):∃ t b,l[i]?=some t/\v=.ref b/\H b=some (.tup [.int t.1,.int t.2]):=by
 obtain⟨k,hk,b,e1,e2⟩:=vy h i v e;rw[ax]at hk;cases ht:l[i]? with
 | none=>rw[ht]at hk;cases hk
 | some t=>rw[ht]at hk;cases hk;exact⟨t,b,rfl,e1,e2⟩
theorem Er {K:iF}{H:Hp}{ws:List V}{l:iI}(h:TN H ws l):Iss K H ws (l.map jD):=by
 induction l generalizing ws with
 | nil=>cases h;exact .nil
 | cons t r ih =>
  cases h with
  | cons h1 h2 =>obtain⟨b,rfl,hb⟩:=h1;exact .cons (.tup (SqT.of hb) (.cons (.int _) (.cons (.int _) .nil))) (ih h2)
theorem IT {ks:List (List Int)}{l:iI}(h:∀ k∈ks,k∈l.map λ t=>[(t.1:Int),(t.2:Int)]):(ks.map λ k=>(k.getD 0 0,k.getD 1 0)).map (λ(k:Int×Int)=>[k.1,k.2])=ks:=by
 rw[aH];conv=>rhs;rw[<-ip ks]
 refine aK λ k hk=>?_;obtain⟨t,_,rfl⟩:=aD.mp (h k hk);rfl
section
variable {P:Program}{w:World}{K:iF}{mg:iq}{base:Heap}
def O4 (K:iF):Sp:=λ vs H Q _=>∃ (p:Addr) (n:Int) (thick:Nat),vs=[.ref p,.int 8,.int thick]/\thick<=1/\H p=some (.lst [.int n]) /\
 ∀ v H' (n':Int) (w:Web),Good w->(thick=0->w.2.length+1=w.1)->Is K H' v (i8 w)->H' p=some (.lst [.int n'])->But p H H'->Q v H'
def NO (K:iF):List V->Hp->VK->Prop:=λ xs H Q=>∃ p ys,xs=[.ref p]/\(SqL K H p ys\/SqT K H p ys)/\Q (.int ys.length) H
def Q5:List V->Hp->VK->Prop:=λ xs H Q=>∃ i j,xs=[.int i,.int j]/\Q (.int (if j<i then j else i)) H
def Q6:List V->Hp->VK->Prop:=λ xs H Q=>∃ i j,xs=[.int i,.int j]/\Q (.int (if j>i then j else i)) H
def Q7:List V->Hp->VK->Prop:=λ xs H Q=>∃ (r:Addr) (n:Nat),xs=[V.ref r]/\H r=some (HO.rng 0 (n:Int))/\n<=1000/\∀ (p:Addr),H p=none->Q (V.ref p) (upd H p (HO.lst (List.map (λ(i:Nat)=>V.int (i:Int)) (List.range n))))
def Tn:List V->Hp->VK->Prop:=λ xs H Q=>∃ (j:Int),xs=[V.int j]/\∀ (p:Addr),H p=none->Q (V.ref p) (upd H p (HO.rng 0 j))
def Q8 (K:iF):List V->Hp->VK->Prop:=λ xs H Q=>∃ p ys,xs=[V.ref p]/\((SqL K H p ys/\∀ (l:Addr),H l=none->Q (V.ref l) (upd H l (HO.tup ys)))\/SqT K H p ys/\Q (V.ref p) H)
def NP (w:World):List V->Hp->VK->Prop:=λ xs H Q=>∃ (S:Addr) (kk:List (Int×Int)),xs=[V.ref S]/\MF w H S (List.map (λ(k:Int×Int)=>[k.1,k.2]) kk)/\kk.length<64/\∀ (p:Addr) (ws:List V) (ss:List (Int×Int)),H p=none->Ij H ws (List.map (λ(k:Int×Int)=>[k.1,k.2]) ss)->List.Pairwise (λ a b=>Tb.pLt a b=true) ss->ss.Perm kk->Q (V.ref p) (upd H p (HO.lst ws))
def VA (K:iF)(w:World):List V->Hp->VK->Prop:=λ xs H Q=>∃ (l:Addr) (vs:List V) (kk:List (List Int)),xs=[V.ref l]/\SqL K H l vs/\Ij H vs kk/\vs.length<=40/\∀ (S:Addr) (o:HO) (ks:List (List Int)),H S=none->MF w (upd H S o) S ks->(∀ (k:List Int),k∈ks↔k∈kk)->Q (V.ref S) (upd H S o)
def wF (K:iF)(w:World):TS:=zP (CI (i_ (jj 3) (i_ (tCB (Q8 K) (i_ (tCB (NP w) (i_ (tCB (VA K w) (i_ (jj 8) jG)) jG)) jG)) jG)))
def eN (K:iF):TE:=CI (i_ (tCB Q5 (i_ (tOp (vn K) (jj 2) (jj 0)) (i_ (tOp (vn K) (jj 2) (jj 1)) jG))) (i_ (tCB Q6 (i_ (tOp (vn K) (jj 2) (jj 0)) (i_ (tOp (vn K) (jj 2) (jj 1)) jG))) jG))
def wE (K:iF)(w:World):TS:=jO (λ D σ H=>tLC ["_law_one","_law_other"] [7] (Ga K (jj 8)) (wW K 2 (lG (jt 0) (lG (jt 1) wV))) E8 (eN K) σ H λ v H'=>D.nx (List.set σ 8 (some v)) H') (wF K w)
def b2 (K:iF):TS:=jO (kP (kD nz [] E0 (i_ (jj 0) (i_ (jj 3) jG))) (jt 12)) (jO (kP (kD nz [] E0 (i_ (jj 0) (i_ (jj 3) jG))) (jt 13)) (HR (Jt (tOp rNe (jj 12) (jj 13))) (Aj (tBM K "list" rL (jj 8) (i_ (CI (i_ (jj 12) (i_ (jj 13) jG))) jG))) Ai))
def wD (K:iF)(w:World):TS:=jO (wX (vX (i_ (jj 5) jG)) (jt 11) (b2 K)) (wE K w)
def b1 (K:iF):TS:=jO (kP (kD nz [] E0 (i_ (jj 0) (i_ (jj 9) jG))) (jt 10)) (Aj (tBM K "list" rL (jj 8) (i_ (CI (i_ (tOp (vn K) (xQ (i_ (tOp (rI0 λ i j=>V.int (i-j)) (jj 9) (tC (V.int 1))) (i_ (jj 10) (i_ (jj 10) (i_ (tC (V.int 0)) jG))))) (jj 4)) (i_ (jj 9) jG))) jG)))
def wC (K:iF)(w:World):TS:=jO (kP (xQ jG) (jt 8)) (jO (wX (Ob (i_ (tC (V.int 1)) (i_ (jj 3) jG))) (jt 9) (b1 K)) (wD K w))
def eC (K:iF):TE:=tBM K "list" ET (jj 1) (i_ (kD nz [] E0 (i_ (jj 2) (i_ (tCB (NO K) (i_ (jj 1) jG)) jG))) jG)
def wB (K:iF)(w:World):TS:=jO (kP (tLC ["_law_turn"] [6,0] (vX (i_ (jj 3) jG)) (jt 0) E8 (eC K)) (jt 7)) (wC K w)
def wA (K:iF)(w:World):TS:=jO (kP (tOp (rI0 λ i j=>V.int (i+j)) (tC (V.int 2)) (kD nz [] E0 (i_ (jj 0) (i_ (tOp (rI0 λ i j=>V.int (i-j)) (jj 1) (tC (V.int 1))) jG)))) (jt 3)) (jO (kP (kD nz [] E0 (i_ (jj 0) (i_ (tC (V.int 4)) jG))) (jt 4)) (jO (kP (tOp (rI Mi λ i j=>V.int (i*j)) (tOp (vn K) (xQ (i_ (tC (V.int 0)) (i_ (tC (V.int 1)) (i_ (tC (V.int 2)) (i_ (tC (V.int 12)) jG))))) (kD nz [] E0 (i_ (jj 0) (i_ (tC (V.int 4)) jG)))) (jj 2)) (jt 5)) (jO (kP (tCB Q7 (i_ (tCB Tn (i_ (jj 3) jG)) jG)) (jt 6)) (wB K w))))
def QW (K:iF)(p:Addr)(H:Hp)(thick:Nat)(rt:VK):Prop:=∀ v H' (n':Int) (w:Web),Good w->(thick=0->w.2.length+1=w.1)->Is K H' v (i8 w)->H' p=some (.lst [.int n'])->But p H H'->rt v H'
abbrev sgW (p:Addr)(thick m sh extra:Nat)(lf cl ti:V)(pl dr tu on ot:iA V):L2.St:=[some (.ref p),some (.int 8),some (iV thick),some (iV m),some (iV sh),some (iV extra),some lf,some cl,some ti,pl,dr,tu,on,ot]
theorem Q9 {m:Nat}{xs:List Nat}{tb te:iI}{ss:List (Int×Int)}(Dr:Drawn m xs tb te)(hpw:ss.Pairwise λ a b=>Tb.pLt a b=true)(memss:∀ k,k∈ss↔∃ t∈(tb++te).map (rel xs),k=((t.1:Int),(t.2:Int))) :
  Good (m,ss.map λ k=>(k.1.toNat,k.2.toNat))/\(te=[]->(ss.map λ k=>(k.1.toNat,k.2.toNat)).length+1=m):=by
 refine M_ Dr (ss:=ss.map λ k=>(k.1.toNat,k.2.toNat)) ?_ λ t=>?_
 ·rw[cy];refine eP ?_ hpw;intro a b ha hb hab;obtain⟨t,_,rfl⟩:=(memss a).mp ha;obtain⟨u,_,rfl⟩:=(memss b).mp hb;rw[Tb.t4]at hab;rw[yI];simp at hab ⊢;lia
 ·rw[aD]
  constructor
  ·rintro⟨k,hk,rfl⟩;obtain⟨u,hu,rfl⟩:=(memss k).mp hk;simpa using hu
  ·intro ht;exact⟨((t.1:Int),(t.2:Int)),(memss _).mpr ⟨t,ht,rfl⟩,by simp⟩
theorem NQ {H:Hp}{ws:List V}{ss:List (Int×Int)}{l:iI}(memss:∀ k,k∈ss↔∃ t∈l,k=((t.1:Int),(t.2:Int)))(htups:Ij H ws (ss.map λ k=>[k.1,k.2])):TN H ws (ss.map λ k=>(k.1.toNat,k.2.toNat)):=by
 have back:(ss.map λ k=>(k.1.toNat,k.2.toNat)).map (λ t=>((t.1:Int),(t.2:Int)))=ss:=by
  rw[aH];conv=>rhs;rw[<-ip ss]
  refine aK λ k hk=>?_;obtain⟨t,_,rfl⟩:=(memss k).mp hk;simp
 unfold TN;have:(ss.map λ k=>(k.1.toNat,k.2.toNat)).map (λ t=>[(t.1:Int),(t.2:Int)])=ss.map λ k=>[k.1,k.2]:=by
  conv=>rhs;rw[<-back]
  rw[aH,aH,aH];rfl
 rw[this];exact htups
theorem To {D:Ends}{σ:L2.St}{p:Addr}{H:Hp}{thick m:Nat}{xs:List Nat}{tb te:iI}{q0:Addr}{H8:Hp}{ys:List V}{n7:Int}(q:QW K p H thick D.rt)(Dr:Drawn m xs tb te)(hte:thick=0->te=[])
  (h3:σ[3]?=some (some (iV m))) (h8:σ[8]?=some (some (.ref q0))) (y8:H8 q0=some (.lst ys)) (tn8:TN H8 ys ((tb++te).map (rel xs))) (p8:H8 p=some (.lst [.int n7])) (b8:But p H H8) (yl:(tb++te).length<=19):wF K w D σ H8:=by
 have hyl:=tn8.len;rw[ag]at hyl;refine⟨_,h3,_,h8,q0,ys,_,rfl,SqL.of y8,tn8,by lia,λ S o ks hS hset hmem=>?_⟩;have s1:iZ H8 (upd H8 S o):=iZ.upd hS;have S0:H S=none:=b8.none hS (aX (jn p8 hS));have b9:But p H (upd H8 S o):=b8.new S0;have p9:=s1 _ _ p8;have ndks:ks.Nodup:=by obtain⟨_,_,_,_,_,_,_,_,_,_,_,nd,_⟩:=hset;exact nd
 generalize upd H8 S o=H9 at b9 p9 hset;have frm:=IT λ k hk=>(hmem k).mp hk;have ksl:ks.length<=19:=by have:=aU ndks λ k hk=>(hmem k).mp hk;rw[ag,ag]at this;lia
 refine⟨S,ks.map λ k=>(k.getD 0 0,k.getD 1 0),rfl,by rw[frm];exact hset,by rw[ag];lia,λ sp ws ss hsp htups hpw hperm=>?_⟩;have sp0:H sp=none:=b9.none hsp (aX (jn p9 hsp));refine⟨sp,ws,rfl,.inl ⟨SqL.of iU,λ tp htp=>?_⟩⟩;have s2:iZ H9 (upd (upd H9 sp (.lst ws)) tp (.tup ws)):=(iZ.upd hsp).trans (iZ.upd htp);have ntsp:tp≠sp:=λ z=>by rw[z,iU]at htp;cases htp
 have htp9:H9 tp=none:=by rw[ja ntsp]at htp;exact htp
 have tp0:H tp=none:=b9.none htp9 (aX (jn p9 htp9));have b10:But p H (upd (upd H9 sp (.lst ws)) tp (.tup ws)):=(b9.new sp0).new tp0;have p10:=s2 _ _ p9;have memss:∀ k,k∈ss↔∃ t∈(tb++te).map (rel xs),k=((t.1:Int),(t.2:Int)):=λ k=>by
  rw[hperm.mem_iff,aD];constructor
  ·rintro⟨l0,hl0,rfl⟩;obtain⟨t,ht,rfl⟩:=aD.mp ((hmem l0).mp hl0);exact⟨t,ht,rfl⟩
  ·rintro⟨t,ht,rfl⟩;exact⟨[(t.1:Int),(t.2:Int)],(hmem _).mpr (aD.mpr ⟨t,ht,rfl⟩),rfl⟩
 obtain⟨hgood,hthin⟩:=Q9 Dr hpw memss;have hI:Is K (upd (upd H9 sp (.lst ws)) tp (.tup ws)) (.ref tp) _:=Is.tup (SqT.of iU) (Er ((NQ memss htups).text s2.text));generalize upd (upd H9 sp (.lst ws)) tp (.tup ws)=H10 at b10 p10 hI;refine⟨by show 2<=sizeLine;decide,λ fin hfin=>?_⟩;have s3:iZ H10 (upd H10 fin (.tup [.int m,.ref tp])):=iZ.upd hfin;have f0:H fin=none:=b10.none hfin (aX (jn p10 hfin));exact q _ _ n7 (m,ss.map λ k=>(k.1.toNat,k.2.toNat)) hgood (λ h0=>hthin (hte h0)) (.tup (SqT.of iU) (.cons (.int _) (.cons (hI.ext s3) .nil))) (s3 _ _ p10) (b10.new f0)
theorem Tp {ti:Addr}{Q:VK}{σ:L2.St}{xs:List Nat}{m:Nat}{cl:Addr}{t:Nat×Nat}{H':Hp}(h0:σ[0]?=some (some (iV t.1)))(h1:σ[1]?=some (some (iV t.2)))(h2:σ[2]?=some (some (.ref cl)))(c7:H' cl=some (.lst (xs.map iV)))(l1:t.1<xs.length)(l2:t.2<xs.length)
  (q:∀ tt,H' tt=none->Q (.ref tt) (upd H' tt (.tup [.int (rel xs t).1,.int (rel xs t).2]))):eN K σ H' Q:=by
 have a1:=O3 (xs:=xs) l1;have a2:=O3 (xs:=xs) l2;refine⟨_,h2,_,h0,cl,_,_,_,rfl,rfl,SqL.of c7,a1,_,h2,_,h1,cl,_,_,_,rfl,rfl,SqL.of c7,a2,_,_,rfl,_,h2,_,h0,cl,_,_,_,rfl,rfl,SqL.of c7,a1,_,h2,_,h1,cl,_,_,_,rfl,rfl,SqL.of c7,a2,_,_,rfl,by show 2<=sizeLine;decide,λ tt htt=>?_⟩;have erel:([V.int (if ((xs.getD t.2 0:Nat):Int)<((xs.getD t.1 0:Nat):Int) then ((xs.getD t.2 0:Nat):Int) else ((xs.getD t.1 0:Nat):Int)),V.int (if ((xs.getD t.2 0:Nat):Int)>((xs.getD t.1 0:Nat):Int) then ((xs.getD t.2 0:Nat):Int) else ((xs.getD t.1 0:Nat):Int))]:List V)=[.int (rel xs t).1,.int (rel xs t).2]:=by unfold rel;simp only[List.cons.injEq,V.int.injEq,and_true];constructor<;>(split<;>lia)
 rw[erel];exact q tt htt
def iE (p:Addr)(H:Hp)(xs:List Nat)(tb te:iI)(cl ti:Addr)(vs:List V)(n7:Int):Nat->Nat->List V->Hp->Prop:=λ i mm ys H'=>mm=vs.length-i/\i<=vs.length/\ys.length=i/\TN H' ys (((tb++te).take i).map (rel xs))/\H' ti=some (.lst vs)/\TN H' vs (tb++te)/\H' cl=some (.lst (xs.map iV))/\H' p=some (.lst [.int n7])/\But p H H'
theorem Tq {D:Ends}{p:Addr}{H:Hp}{thick m sh extra:Nat}{xs:List Nat}{tb te:iI}{lf cl ti:Addr}{pl dr tu on ot:iA V}{H7:Hp}{vs:List V}{n7:Int}(q:QW K p H thick D.rt)(Dr:Drawn m xs tb te)(hte:thick=0->te=[])
  (t7:H7 ti=some (.lst vs)) (tn7:TN H7 vs (tb++te)) (c7:H7 cl=some (.lst (xs.map iV))) (p7:H7 p=some (.lst [.int n7])) (b7:But p H H7) (hl:(tb++te).length<=19):wE K w D (sgW p thick m sh extra (.ref lf) (.ref cl) (.ref ti) pl dr tu on ot) H7:=by
 have hvl:=tn7.len;refine⟨_,rfl,ti,rfl,⟨_,SqL.of t7⟩,iE p H xs tb te cl ti vs n7,
  ⟨vs.length,rfl,bg _,rfl,.nil,t7,tn7,c7,p7,b7⟩,?_⟩
 clear t7 tn7 c7 p7 b7;rintro i mm ys H' ⟨rfl,hiv,hyl,tny,t7,tn7,c7,p7,b7⟩;rcases hG i vs.length with hi' | hi'
 ·right
  have hxi:vs[i]?=some vs[i]:=by simp[hi']
  obtain⟨t,b,et,ev,hb⟩:=tn7.get hxi;have htm:=Dr.all (a8 et);have hxl:xs.length=m:=Dr.len;refine⟨⟨vs,vs[i],SqL.of t7,hxi⟩,by rw[sizeLine_eq];lia,λ x H'' ⟨e1,yx⟩=>?_⟩;subst e1;have ex:=yx vs (SqL.of t7);rw[hxi]at ex;have ex:=aF ex;subst ex;refine⟨b,_,ev,SqT.of hb,rfl,_,_,rfl,_,_,rfl,rfl,?_⟩;dsimp only [E8];refine EV ?_;refine Tp (ti:=ti) (m:=m) (t:=t) rfl rfl rfl c7 (by lia) (by lia) λ tt htt=>?_;have sm:iZ H'' (upd H'' tt (.tup [.int (rel xs t).1,.int (rel xs t).2])):=iZ.upd htt;have tt0:H tt=none:=b7.none htt (aX (jn p7 htt));refine⟨vs.length-(i+1),by lia,rfl,hi',by simp[hyl],?_,sm _ _ t7,tn7.text sm.text,sm _ _ c7,sm _ _ p7,b7.new tt0⟩;rw[eT,et,a7];exact(tny.text sm.text).snoc (t:=rel xs t) iU
 ·left
  have hi2:vs.length=i:=by lia
  subst hi2;rw[eZ (by lia)]at tny;refine⟨⟨vs,SqL.of t7,ak _⟩,λ q0 hq0=>?_⟩;have s0:iZ H' (upd H' q0 (.lst ys)):=iZ.upd hq0;exact To (D:=D) q Dr hte rfl rfl iU (tny.text s0.text) (s0 _ _ p7) (b7.new (b7.none hq0 (aX (jn p7 hq0)))) hl
theorem Q_ {D:Ends}{p:Addr}{thick m sh extra:Nat}{lf cl ti:Addr}{pl dr tu on ot:iA V}{H':Hp}{vs:List V}{n7:Int}(m2:0<m)(m8:m<=8)(p7:H' p=some (.lst [.int n7]))(t7:H' ti=some (.lst vs))(ntp:ti≠p)(hvl:vs.length<=60)
  (h1:∀ (o1 o2:Nat) (n9:Int) on ot,D.nx (sgW p thick m sh extra (.ref lf) (.ref cl) (.ref ti) pl dr tu on ot) (upd H' p (.lst [.int n9])))
  (h2:∀ (o1 o2:Nat) (n9:Int) on ot tt,o1<m->o2<m->o1≠o2->upd H' p (.lst [.int n9]) tt=none->D.nx (sgW p thick m sh extra (.ref lf) (.ref cl) (.ref ti) pl dr tu on ot) (upd (upd (upd H' p (.lst [.int n9])) tt (.tup [.int o1,.int o2])) ti (.lst (vs++[.ref tt])))) :
  b2 K D (sgW p thick m sh extra (.ref lf) (.ref cl) (.ref ti) pl dr tu on ot) H':=by
 have mp:(0:Int)<m:=by lia
 refine⟨_,rfl,_,rfl,p,n7,_,rfl,p7,mp,by show(m:Int)<_;lia,?_⟩;dsimp only;obtain⟨o1,ho1,o1m⟩:∃ d:Nat,n7 % (m:Int)=d/\d<m:=⟨(n7 % (m:Int)).toNat,by have:=bX n7 (show(m:Int)≠0 by lia);lia,by have:=cC n7 mp;have:=bX n7 (show(m:Int)≠0 by lia);lia⟩;rw[ho1];generalize n7 / (m:Int)=n8;have p8:upd H' p (.lst [.int n8]) p=some (.lst [.int n8]):=iU;refine⟨_,rfl,_,rfl,p,n8,_,rfl,p8,mp,by show(m:Int)<_;lia,?_⟩;dsimp only;obtain⟨o2,ho2,o2m⟩:∃ d:Nat,n8 % (m:Int)=d/\d<m:=⟨(n8 % (m:Int)).toNat,by have:=bX n8 (show(m:Int)≠0 by lia);lia,by have:=cC n8 mp;have:=bX n8 (show(m:Int)≠0 by lia);lia⟩;rw[ho2];generalize n8 / (m:Int)=n9;have e9:upd (upd H' p (.lst [.int n8])) p (.lst [.int n9])=upd H' p (.lst [.int n9]):=by funext b;unfold upd;split<;>rfl
 rw[e9];have t8:upd H' p (.lst [.int n9]) ti=some (.lst vs):=by rw[ja ntp];exact t7
 refine⟨_,rfl,_,rfl,rfl,_,rfl,?_⟩;refine PU (λ hne=>?_) (λ _=>h1 o1 o2 n9 _ _);have hne:o1≠o2:=λ e=>by subst e;simp at hne
 refine⟨_,rfl,.inl ⟨rfl,_,SqL.of t8⟩,_,rfl,_,rfl,by show 2<=sizeLine;decide,λ tt htt=>?_⟩;refine⟨ti,vs,_,rfl,rfl,(iZ.upd htt) _ _ t8,by rw[sizeLine_eq];lia,h2 o1 o2 n9 _ _ tt o1m o2m hne htt⟩
def iD (p : Addr)(H : Hp)(thick m sh extra : Nat)(xs : List Nat)(tb : List (Nat × Nat))(lf cl ti : Addr) : Nat -> L2.St -> Hp -> Prop := λ i σ' H' => ∃ (te : List (Nat × Nat)) (vs : List V) (n7 : Int) (pl dr tu on ot : iA V), σ' = sgW p thick m sh extra (.ref lf) (.ref cl) (.ref ti) pl dr tu on ot /\
      te.length <= i /\ (∀ t ∈ te, t.1 < m /\ t.2 < m /\ t.1 ≠ t.2) /\ H' ti = some (.lst vs) /\ TN H' vs (tb ++ te) /\ H' cl = some (.lst (xs.map iV)) /\ H' p = some (.lst [.int n7]) /\ But p H H'
theorem Ts {D:Ends}{p:Addr}{H:Hp}{thick m sh extra:Nat}{xs:List Nat}{tb:iI}{lf cl ti:Addr}{pl dr:iA V}{H7:Hp}{vs:List V}{n7:Int}(q:QW K p H thick D.rt)(m2:2<=m)(m8:m<=8)(perm:xs.Perm (List.range m))
  (htl:tb.length=m-1) (htk:∀ k,k<m-1->∃ a,tb[k]?=some (a,k+1)/\a<=k) (hex2:extra<=12) (hex0:thick=0->extra=0) (ntp:ti≠p) (ntc:ti≠cl) (ncp:cl≠p) (hti0:H ti=none)
  (t7:H7 ti=some (.lst vs)) (tn7:TN H7 vs tb) (c7:H7 cl=some (.lst (xs.map iV))) (p7:H7 p=some (.lst [.int n7])) (b7:But p H H7):wD K w D (sgW p thick m sh extra (.ref lf) (.ref cl) (.ref ti) pl dr none none none) H7:=by
 have hext:((extra:Nat):Int).toNat=extra:=by lia
 refine⟨_,rfl,extra,rfl,by lia,by lia,mJ (lo:=0) (n:=((extra:Nat):Int).toNat) (iD p H thick m sh extra xs tb lf cl ti)
  ⟨[],vs,n7,pl,dr,none,none,none,rfl,ak _,(λ t ht=>by cases ht),t7,(by rw[cF];exact tn7),c7,p7,b7⟩ ?_ ?_⟩
 ·clear t7 tn7 c7 p7 b7
  rintro i σ' H' hi ⟨te,vs,n7,pl,dr,tu,on,ot,rfl,tel,teo,t7,tn7,c7,p7,b7⟩;have hvl:=tn7.len;rw[aT,htl]at hvl;have tx (n9:Int):jY H' (upd H' p (.lst [.int n9])):=jY.upd (by rw[p7];trivial);refine Q_ (by lia) m8 p7 t7 ntp (by lia) (λ o1 o2 n9 on ot=>⟨te,vs,n9,_,_,_,_,_,rfl,by lia,teo,?_,tn7.text (tx n9),?_,iU,b7.zG⟩) λ o1 o2 n9 on ot tt o1m o2m hne htt=>?_
  ·rw[ja ntp];exact t7
  ·rw[ja ncp];exact c7
  ·have t8:upd H' p (.lst [.int n9]) ti=some (.lst vs):=by rw[ja ntp];exact t7
   have c8:upd H' p (.lst [.int n9]) cl=some (.lst (xs.map iV)):=by rw[ja ncp];exact c7
   have p8:upd H' p (.lst [.int n9]) p=some (.lst [.int n9]):=iU;have b8:But p H (upd H' p (.lst [.int n9])):=b7.zG;have tn8:=tn7.text (tx n9);generalize upd H' p (.lst [.int n9])=H8 at tn8 t8 c8 p8 b8 htt;have sm:iZ H8 (upd H8 tt (.tup [.int o1,.int o2])):=iZ.upd htt;have tt0:H tt=none:=b8.none htt (aX (jn p8 htt));have b9:=b8.new tt0 (o:=.tup [.int o1,.int o2]);have tu9:upd H8 tt (.tup [.int o1,.int o2]) tt=some (.tup [.int o1,.int o2]):=iU;have t9:=sm _ _ t8;have c9:=sm _ _ c8;have p9:=sm _ _ p8;have tn9:=tn8.text sm.text;generalize upd H8 tt (.tup [.int o1,.int o2])=H9 at b9 tu9 t9 c9 p9 tn9;have tx:jY H9 (upd H9 ti (.lst (vs++[.ref tt]))):=jY.upd (by rw[t9];trivial);refine⟨te++[(o1,o2)],vs++[.ref tt],n9,_,_,_,_,_,rfl,by rw[aT,bF];lia,λ t ht=>?_,iU,?_,by rw[ja (aX ntc)];exact c9,by rw[ja (aX ntp)];exact p9,b9.new hti0⟩
   ·rcases bG.mp ht with z | z
    ·exact teo t z
    ·rw[bA.mp z];exact⟨o1m,o2m,hne⟩
   ·rw[<-eJ];exact(tn9.snoc (t:=(o1,o2)) tu9).text tx
 ·clear t7 tn7 c7 p7 b7;rintro σ' H' ⟨te,vs,n7,pl,dr,tu,on,ot,rfl,tel,teo,t7,tn7,c7,p7,b7⟩;rw[hext]at tel;exact Tq (D:=D) q ⟨m2,m8,perm,htl,htk,teo,by lia⟩ (λ h0=>dP.mp (by have:=hex0 h0;lia)) t7 tn7 c7 p7 b7 (by rw[aT];lia)
theorem Ra {D:Ends}{p:Addr}{thick m sh extra i:Nat}{lf cl ti:Addr}{dr tu on ot:iA V}{H':Hp}{vs:List V}{n7:Int}(hi:i<8)(sh4:sh<4)(p7:H' p=some (.lst [.int n7]))(t7:H' ti=some (.lst vs))(ntp:ti≠p)(hvl:vs.length<=60)
  (h:∀ (a dr':Nat) (n8:Int) q4 tu',a<=i->upd H' p (.lst [.int n8]) q4=none->upd (upd H' p (.lst [.int n8])) q4 (.lst [V.int (1+(i:Int)-1),iV dr',iV dr',V.int 0]) tu'=none ->
   D.nx (sgW p thick m sh extra (.ref lf) (.ref cl) (.ref ti) (some (.int (1+(i:Int)))) (some (iV dr')) tu on ot) (upd (upd (upd (upd H' p (.lst [.int n8])) q4 (.lst [V.int (1+(i:Int)-1),iV dr',iV dr',V.int 0])) tu' (.tup [iV a,.int (1+(i:Int))])) ti (.lst (vs++[.ref tu'])))) :
  b1 K D (sgW p thick m sh extra (.ref lf) (.ref cl) (.ref ti) (some (.int (1+(i:Int)))) dr tu on ot) H':=by
 refine⟨_,rfl,_,rfl,p,n7,_,rfl,p7,by lia,by lia,?_⟩;dsimp only;obtain⟨dr',hdr,dri⟩:∃ d:Nat,n7 % (1+(i:Int))=d/\d<=i:=⟨(n7 % (1+(i:Int))).toNat,by have:=bX n7 (show(1+(i:Int))≠0 by lia);lia,by have:=cC n7 (show(0:Int)<1+(i:Int) by lia);have:=bX n7 (show(1+(i:Int))≠0 by lia);lia⟩;rw[hdr];generalize n7 / (1+(i:Int))=n8;have t8:upd H' p (.lst [.int n8]) ti=some (.lst vs):=by rw[ja ntp];exact t7
 obtain⟨pa',hpa,pai⟩:∃ a:Nat,([V.int (1+(i:Int)-1),iV dr',iV dr',V.int 0]:List V)[sh]?=some (iV a)/\a<=i:=by
  rcases (by lia:sh=0\/sh=1\/sh=2\/sh=3) with rfl | rfl | rfl | rfl
  ·exact⟨i,by simp[iV];lia,by lia⟩
  ·exact⟨dr',rfl,dri⟩
  ·exact⟨dr',rfl,dri⟩
  ·exact⟨0,rfl,by lia⟩
 refine⟨_,rfl,.inl ⟨rfl,_,SqL.of t8⟩,_,rfl,_,_,rfl,rfl,_,rfl,_,rfl,by show 4<=sizeLine;decide,λ q4 hq4=>?_⟩;refine⟨_,rfl,q4,_,_,iV pa',rfl,rfl,SqL.of iU,lx hpa,_,rfl,by show 2<=sizeLine;decide,λ tu htu=>?_⟩;exact⟨ti,vs,_,rfl,rfl,((iZ.upd hq4).trans (iZ.upd htu)) _ _ t8,by rw[sizeLine_eq];lia,h pa' dr' n8 q4 tu pai hq4 htu⟩
def iC (p : Addr)(H : Hp)(thick m sh extra : Nat)(xs : List Nat)(lf cl ti : Addr) : Nat -> L2.St -> Hp -> Prop := λ i σ' H' => ∃ (tb : List (Nat × Nat)) (vs : List V) (n7 : Int) (pl dr : iA V), σ' = sgW p thick m sh extra (.ref lf) (.ref cl) (.ref ti) pl dr none none none /\
      tb.length = i /\ (∀ k, k < i -> ∃ a, tb[k]? = some (a, k + 1) /\ a <= k) /\ H' ti = some (.lst vs) /\ TN H' vs tb /\ H' cl = some (.lst (xs.map iV)) /\ H' p = some (.lst [.int n7]) /\ But p H H'
theorem Tt {D:Ends}{p:Addr}{H:Hp}{thick m sh extra:Nat}{xs:List Nat}{lf cl:Addr}{H6:Hp}{n5:Int}(q:QW K p H thick D.rt)(m2:2<=m)(m8:m<=8)(sh4:sh<4)(perm:xs.Perm (List.range m))(hex2:extra<=12)(hex0:thick=0->extra=0)(ncp:cl≠p)
  (c6:H6 cl=some (.lst (xs.map iV))) (p6:H6 p=some (.lst [.int n5])) (b6:But p H H6):wC K w D [some (.ref p),some (.int 8),some (iV thick),some (iV m),some (iV sh),some (iV extra),some (.ref lf),some (.ref cl),none,none,none,none,none,none] H6:=by
 refine⟨bg _,λ ti hti=>?_⟩;have ntp:ti≠p:=λ z=>by subst z;rw[p6]at hti;cases hti
 have ntc:ti≠cl:=λ z=>by subst z;rw[c6]at hti;cases hti
 have hti0:H ti=none:=b6.none hti ntp;have hm1:((m:Int)-1).toNat=m-1:=by lia
 refine⟨_,rfl,1,m,rfl,⟨by lia,by lia,by lia,by lia⟩,mJ (lo:=1) (n:=((m:Int)-1).toNat) (iC p H thick m sh extra xs lf cl ti)
  ⟨[],[],n5,none,none,rfl,rfl,λ k hk=>by lia,iU,.nil,by rw[ja (aX ntc)];exact c6,by rw[ja (aX ntp)];exact p6,b6.new hti0⟩ ?_ ?_⟩
 ·clear c6 p6 b6
  rintro i σ' H' hi ⟨tb,vs,n7,pl,dr,rfl,htl,htk,t7,tn7,c7,p7,b7⟩;have hi1:i<m-1:=by lia
  refine Ra (by lia) sh4 p7 t7 ntp (by rw[tn7.len];lia) λ pa' dr' n8 q4 tu pai hq4 htu=>?_;have tn8:=tn7.text (jY.upd (o:=.lst [.int n8]) (by rw[p7];trivial));have t8:upd H' p (.lst [.int n8]) ti=some (.lst vs):=by rw[ja ntp];exact t7
  have c8:upd H' p (.lst [.int n8]) cl=some (.lst (xs.map iV)):=by rw[ja ncp];exact c7
  have p8:upd H' p (.lst [.int n8]) p=some (.lst [.int n8]):=iU;have b8:But p H (upd H' p (.lst [.int n8])):=b7.zG;generalize upd H' p (.lst [.int n8])=H8 at tn8 t8 c8 p8 b8 hq4 htu;clear tn7 t7 c7 p7 b7;generalize [V.int (1+(i:Int)-1),iV dr',iV dr',V.int 0]=l4 at htu;have ntq:tu≠q4:=λ y=>by rw[y,iU]at htu;cases htu
  have htu8:H8 tu=none:=by rw[ja ntq]at htu;exact htu
  have q40:H q4=none:=b8.none hq4 (aX (jn p8 hq4));have tu0:H tu=none:=b8.none htu8 (aX (jn p8 htu8));have sm:iZ H8 (upd (upd H8 q4 (.lst l4)) tu (.tup [iV pa',.int (1+(i:Int))])):=(iZ.upd hq4).trans (iZ.upd htu);have b9:=(b8.new q40 (o:=.lst l4)).new tu0 (o:=.tup [iV pa',.int (1+(i:Int))]);have tu9:upd (upd H8 q4 (.lst l4)) tu (.tup [iV pa',.int (1+(i:Int))]) tu=some (.tup [iV pa',.int (1+(i:Int))]):=iU;have t9:=sm _ _ t8;have c9:=sm _ _ c8;have p9:=sm _ _ p8;have tn9:=tn8.text sm.text;generalize upd (upd H8 q4 (.lst l4)) tu (.tup [iV pa',.int (1+(i:Int))])=H9 at b9 tu9 t9 c9 p9 tn9;have tx:jY H9 (upd H9 ti (.lst (vs++[.ref tu]))):=jY.upd (by rw[t9];trivial);refine⟨tb++[(pa',i+1)],vs++[.ref tu],n8,_,_,rfl,by rw[aT,bF,htl],λ k hk=>?_,iU,?_,by rw[ja (aX ntc)];exact c9,by rw[ja (aX ntp)];exact p9,b9.new hti0⟩
  ·by_cases hki:k<i
   ·obtain⟨a,ea,ha⟩:=htk k hki;exact⟨a,by rw[bW (by lia)];exact ea,ha⟩
   ·have:k=i:=by lia
    subst this;exact⟨pa',by rw[bS (by lia)];simp[htl],pai⟩
  ·refine(tn9.snoc (t:=(pa',i+1)) ?_).text tx;rw[tu9];simp[iV];lia
 ·rintro σ' H' ⟨tb,vs,n7,pl,dr,rfl,htl,htk,t7,tn7,c7,p7,b7⟩;rw[hm1]at htl htk;exact Ts (D:=D) q m2 m8 perm htl htk hex2 hex0 ntp ntc ncp hti0 t7 tn7 c7 p7 b7
theorem Tu {Q:VK}{σ:L2.St}{p lf:Addr}{L:List Nat}{n5:Int}{H':Hp}(h1:σ[1]?=some (some (.ref lf)))(h2:σ[2]?=some (some (.ref p)))(nlp:lf≠p)(hL:0<L.length)(hL8:L.length<=8)(l5:H' lf=some (.lst (L.map iV)))(p5:H' p=some (.lst [.int n5]))
  (q:∀ (j:Nat) (n6:Int) (jl:j<L.length),Q (iV L[j]) (upd (upd H' p (.lst [.int n6])) lf (.lst ((L.map iV).eraseIdx j)))):eC K σ H' Q:=by
 obtain⟨j,hj,jl⟩:∃ j:Nat,n5 % ((L.map iV).length:Int)=j/\j<L.length:=by rw[ag];exact⟨(n5 % (L.length:Int)).toNat,by have:=bX n5 (show(L.length:Int)≠0 by lia);lia,by have:=cC n5 (show(0:Int)<L.length by lia);have:=bX n5 (show(L.length:Int)≠0 by lia);lia⟩
 refine⟨_,h1,.inl ⟨rfl,_,SqL.of l5⟩,_,h2,_,h1,lf,_,rfl,.inl (SqL.of l5),p,n5,_,rfl,p5,by rw[ag];lia,by rw[ag];lia,?_⟩;rw[hj];have l6:upd H' p (.lst [.int (n5 / ((L.map iV).length:Int))]) lf=some (.lst (L.map iV)):=by rw[ja nlp];exact l5
 refine⟨lf,_,_,j,iV L[j],rfl,rfl,l6,by lia,by lia,?_,by simp[jl],q j _ jl⟩;rw[ag];have:=seqIndex_of (k:=(j:Int)) (n:=L.length) (by lia) (by lia);simpa using this
def iB (p:Addr)(H:Hp)(m:Nat)(lf:Addr):Nat->Nat->List V->Hp->Prop:=λ i mm ys H5=>mm=m-i/\i<=m/\∃ (xs L:List Nat) (n5:Int),ys=xs.map iV/\xs.length=i/\L.length=m-i/\(xs++L).Perm (List.range m)/\H5 lf=some (.lst (L.map iV))/\H5 p=some (.lst [.int n5])/\But p H H5
theorem Tv {D:Ends}{p:Addr}{H:Hp}{thick m sh extra:Nat}{lf:Addr}{H4:Hp}{n3:Int}(q:QW K p H thick D.rt)(m2:2<=m)(m8:m<=8)(sh4:sh<4)(hex2:extra<=12)(hex0:thick=0->extra=0)(nlp:lf≠p)(hlf0:H lf=none)
  (l4:H4 lf=some (.lst ((List.range m).map iV))) (p4:H4 p=some (.lst [.int n3])) (b4:But p H H4):wB K w D [some (.ref p),some (.int 8),some (iV thick),some (iV m),some (iV sh),some (iV extra),some (.ref lf),none,none,none,none,none,none,none] H4:=by
 refine⟨_,rfl,m,rfl,by lia,by lia,iB p H m lf,⟨m,rfl,bg _,[],List.range m,n3,rfl,rfl,by simp,by simp,l4,p4,b4⟩,?_⟩;clear l4 p4 b4;rintro i mm ys H5 ⟨rfl,him,xs,L,n5,rfl,hxs,hL,perm,l5,p5,b5⟩;rcases hG i m with him' | him'
 ·right
  refine⟨by show i<(m:Int).toNat;lia,by rw[ag,sizeLine_eq];lia,λ x H' ⟨e1,e2⟩=>?_⟩;subst e1;dsimp only [jt,E8];refine EV ?_;refine Tu (L:=L) rfl rfl nlp (by lia) (by lia) l5 p5 λ j n6 jl=>?_;refine⟨m-(i+1),by lia,rfl,by lia,xs++[L[j]],L.eraseIdx j,n6,by simp[iV],by simp[hxs],?_,?_,?_,by rw[ja (aX nlp)];exact iU,(b5.zG).new hlf0⟩
  ·rw[List.length_eraseIdx,af jl];lia
  ·refine List.Perm.trans ?_ perm;rw[eJ];exact List.Perm.append_left xs (zH L jl)
  ·rw[iU,AW]
 ·left
  have hi:m=i:=by lia
  subst hi;have hL0:L=[]:=dP.mp (by lia);subst hL0;rw[cF]at perm;refine⟨by show(m:Int).toNat<=m;lia,λ cl hcl=>?_⟩;have ncp:cl≠p:=λ z=>by subst z;rw[p5]at hcl;cases hcl
  exact Tt (D:=D) q m2 m8 sh4 perm hex2 hex0 ncp iU (by rw[ja (aX ncp)];exact p5) (b5.new (b5.none hcl ncp))
theorem Tw {D:Ends}{p:Addr}{H:Hp}{thick:Nat}{n:Int}(q:QW K p H thick D.rt)(hth:thick<=1)(hp:H p=some (.lst [.int n])):wA K w D [some (.ref p),some (.int 8),some (.int thick),none,none,none,none,none,none,none,none,none,none,none] H:=by
 refine⟨_,rfl,_,rfl,_,_,rfl,rfl,p,n,_,rfl,hp,by decide,by decide,_,_,rfl,rfl,?_⟩;dsimp only;obtain⟨m,hm,m2,m8⟩:∃ m:Nat,(2:Int)+n % (8-1)=m/\2<=m/\m<=8:=⟨(2+n % (8-1)).toNat,by lia,by lia,by lia⟩;rw[hm];generalize n / (8-1)=n1;have b1:But p H (upd H p (.lst [.int n1])):=(But.refl p H).zG;generalize hH1:upd H p (.lst [.int n1])=H1 at b1;have p1:H1 p=some (.lst [.int n1]):=by rw[<-hH1];exact iU
 clear hH1;refine⟨_,rfl,p,n1,_,rfl,p1,by decide,by decide,?_⟩;dsimp only;obtain⟨sh,hsh,sh4⟩:∃ sh:Nat,n1 % 4=sh/\sh<4:=⟨(n1 % 4).toNat,by lia,by lia⟩;rw[hsh];generalize n1 / 4=n2;have b2:But p H (upd H1 p (.lst [.int n2])):=b1.zG;generalize hH2:upd H1 p (.lst [.int n2])=H2 at b2;have p2:H2 p=some (.lst [.int n2]):=by rw[<-hH2];exact iU
 clear hH2;refine⟨by show 4<=sizeLine;decide,λ a4 h4=>?_⟩;have np4:a4≠p:=λ z=>by subst z;rw[p2]at h4;cases h4
 have p3:upd H2 a4 (.lst [.int 0,.int 1,.int 2,.int 12]) p=some (.lst [.int n2]):=by rw[ja (aX np4)];exact p2
 refine⟨_,rfl,p,n2,_,rfl,p3,by decide,by decide,?_⟩;dsimp only;obtain⟨ei,hei,ei4⟩:∃ ei:Nat,n2 % 4=ei/\ei<4:=⟨(n2 % 4).toNat,by lia,by lia⟩;rw[hei];generalize n2 / 4=n3;obtain⟨ex,hex,ex12⟩:∃ ex:Nat,([V.int 0,V.int 1,V.int 2,V.int 12]:List V)[ei]?=some (.int ex)/\ex<=12:=by
  rcases (by lia:ei=0\/ei=1\/ei=2\/ei=3) with rfl | rfl | rfl | rfl
  ·exact⟨0,rfl,by lia⟩
  ·exact⟨1,rfl,by lia⟩
  ·exact⟨2,rfl,by lia⟩
  ·exact⟨12,rfl,by lia⟩
 have b3:But p H (upd (upd H2 a4 (.lst [.int 0,.int 1,.int 2,.int 12])) p (.lst [.int n3])):=(b2.new (b2.none h4 np4)).zG;refine⟨a4,_,_,.int ex,rfl,rfl,SqL.of (by rw[ja np4];exact iU),lx hex,?_⟩;generalize hH3:upd (upd H2 a4 (.lst [.int 0,.int 1,.int 2,.int 12])) p (.lst [.int n3])=H3 at b3;have p3:H3 p=some (.lst [.int n3]):=by rw[<-hH3];exact iU
 clear hH3;refine⟨_,rfl,_,_,rfl,rfl,.inl ⟨by lia,by lia⟩,?_⟩;dsimp only;rw[show(ex:Int)*(thick:Int)=((ex*thick:Nat):Int) by simp];have hex2:ex*thick<=12:=by have:=cE ex12 hth;lia
 have hex0:thick=0->ex*thick=0:=λ h=>by rw[h];simp
 generalize ex*thick=extra at hex2 hex0;refine⟨_,rfl,_,rfl,λ r hr0=>?_⟩;refine⟨r,m,rfl,iU,by lia,λ lf hlf=>?_⟩;have nrp:r≠p:=λ z=>by subst z;rw[p3]at hr0;cases hr0
 have nlr:lf≠r:=λ z=>by subst z;rw[iU]at hlf;cases hlf
 have hlf3:H3 lf=none:=by rw[ja nlr]at hlf;exact hlf
 have nlp:lf≠p:=λ z=>by subst z;rw[p3]at hlf3;cases hlf3
 have hlf0:H lf=none:=b3.none hlf3 nlp;exact Tv (D:=D) q m2 m8 sh4 hex2 hex0 nlp hlf0 iU (by rw[ja (aX nlp),ja (aX nrp)];exact p3) ((b3.new (b3.none hr0 nrp)).new hlf0)
theorem LO (T:Txt K mg):OkT P w base T.og 2 (O4 K):=by
 refine T.og.F.ok jV (λ vs H Q E h=>?_) (λ cdv A outer s H vs Q E hr h=>?_)
 ·obtain⟨p,n,thick,rfl,_⟩:=h;rfl
 ·obtain⟨p,n,thick,rfl,hth,hp,q⟩:=h
  have hu:(A.deeper (envOfC "_law_web" (iX s_) s.heap.objs.size T.og.f cdv)).units+64<cLine:=by have:=hr.un;lia
  have hrt:lV 1 _:=hr.mono (by decide);refine⟨wA K w,iW (jC (i:=3) jV.nd rfl (Or.inl rfl) (jP m7 jd (pC T.jv (lU T) hr (iR (pv 0) (iR (jP ve (pv 1) jd) jb)))))
   (iW (jC (i:=4) jV.nd rfl (Or.inl rfl) (pC T.jv (lU T) hr (iR (pv 0) (iR jd jb))))
   (iW (jC (i:=5) jV.nd rfl (Or.inl rfl) (jP sI (kW kG (me (iR jd (iR jd (iR jd (iR jd jb))))) (pC T.jv (lU T) hr (iR (pv 0) (iR jd jb))) (λ _ _=>rfl)) (pv 2)))
   (iW (jC (i:=6) jV.nd rfl (Or.inr rfl) (o4 (Ft rfl) rfl T.LI boot_list (iR (o4 DO rfl T.kq boot_range (iR (pv 3) jb)) jb)))
   (iW (jC (i:=7) jV.nd rfl (Or.inr rfl) (OA (te:=tBM K "list" ET (jj 1) (i_ (kD nz [] E0 (i_ (jj 2) (i_ (tCB (NO K) (i_ (jj 1) jG)) jG))) jG)) rfl (csc ["_law_turn"] ["_law_left","_law_pot_here"] [6,0]) (lu rfl T.kq (iR (pv 3) jb)) (λ _ _ _ _=>pgo 0) jX (λ _ _ _ _=>Bk)
     (λ _ _ _ _=>Ao cT PySem.F.slot_list_pop PySem.F.type_list_pop JC (pv 1) (iR (pC T.jv (lU T) hr (iR (pv 2) (iR (lK mf (by rfl) T.nD bT (iR (pv 1) jb)) jb))) jb))))
   (iW (jC (i:=8) jV.nd rfl (Or.inl rfl) (me jb))
   (iW (mI bC rfl (HU rfl T.kq (iR jd (iR (pv 3) jb))) (pgo 9)
    (iW (jC (i:=10) jV.nd rfl (Or.inl rfl) (pC T.jv (lU T) hr (iR (pv 0) (iR (pv 9) jb))))
    (jw (rK (Ao cT dM dN o5 (pv 8) (iR (pI (iR (kW kG (me (iR (jP ve (pv 9) jd) (iR (pv 10) (iR (pv 10) (iR jd jb))))) (pv 4) (λ _ _=>rfl)) (iR (pv 9) jb))) jb))))))
   (iW (mI bC rfl (lu rfl T.kq (iR (pv 5) jb)) (pgo 11)
    (iW (jC (i:=12) jV.nd rfl (Or.inl rfl) (pC T.jv (lU T) hr (iR (pv 0) (iR (pv 3) jb))))
    (iW (jC (i:=13) jV.nd rfl (Or.inl rfl) (pC T.jv (lU T) hr (iR (pv 0) (iR (pv 3) jb))))
    (jw (vW (xl Od (pv 12) (pv 13) (xM _)) (jw (rK (Ao cT dM dN o5 (pv 8) (iR (pI (iR (pv 12) (iR (pv 13) jb))) jb)))) ou)))))
   (iW (JV (i:=8) (g:=wW K 2 (lG (jt 0) (lG (jt 1) wV))) (te:=CI (i_ (tCB Q5 (i_ (tOp (vn K) (jj 2) (jj 0)) (i_ (tOp (vn K) (jj 2) (jj 1)) jG))) (i_ (tCB Q6 (i_ (tOp (vn K) (jj 2) (jj 0)) (i_ (tOp (vn K) (jj 2) (jj 1)) jG))) jG))) jV.nd rfl (Or.inl rfl) rfl (csc ["_law_one","_law_other"] ["_law_called"] [7]) (xk (pv 8)) (λ _ _ _ _=>jS rfl (jc (pgo 0) (jc (pgo 1) jH))) (mj (jE (by decide) (jE (by decide) lC))) (λ _ _ _ _=>Bk)
     (λ _ _ _ _=>pI (iR (lK (vj (by rfl)) (by rfl) T.Hy boot_min (iR (kW kG (pv 2) (pv 0) (λ _ _=>rfl)) (iR (kW kG (pv 2) (pv 1) (λ _ _=>rfl)) jb))) (iR (lK (vi (by rfl)) (by rfl) T.Hz boot_max (iR (kW kG (pv 2) (pv 0) (λ _ _=>rfl)) (iR (kW kG (pv 2) (pv 1) (λ _ _=>rfl)) jb))) jb))))
   (jw (lI (pI (iR (pv 3) (iR (o4 se rfl T.lT boot_tuple (iR (lK (yj rfl) rfl T.Eo boot_sorted (iR (o4 (J0 rfl hu) rfl T.Tg boot_set (iR (pv 8) jb)) jb)) jb)) jb))))))))))))),?_⟩
  exact Tw q hth hp
end
section
variable {P:Program}{w:World}{K:iF}{mg:iq}{base:Heap}
theorem oM (T:Txt K mg):OkT P w base T.lE 1 (spD K 2 j7):=by
 refine T.lE.F.ok mB (λ vs H Q E h=>?_) (λ cdv A outer s H vs Q E hr h=>?_)
 ·obtain⟨ds,d,hl,is,_⟩:=h;rw[is.length,hl];rfl
 ·obtain⟨ds,d,hl,is,e,q⟩:=h
  obtain⟨⟨a,b⟩,e1,e2⟩:=jr e;obtain rfl:=rQ e1;clear e e1
  ·cases e2
   refine⟨_,iW (mr (i:=0) (j:=1) rfl mB.nd (iK (jx GS T.Hx boot_abs (iK (dv 0) iS)) (iK (jx GS T.Hx boot_abs (iK (dv 1) iS)) iS)))
    (iW (tN bC (kI (dv 1)) (i9 (mr (i:=0) (j:=1) rfl mB.nd (iK (dv 1) (iK (kC Kg (dv 0) (dv 1)) iS))))) (i9 (jm (dv 0)))),?_⟩
   refine⟨_,.nx [some (iM a.natAbs),some (iM b.natAbs)],is.start,?_,λ H1 s1 σ1 S1=>?_⟩
   ·simp[G1,iM]
   ·refine CH (λ σ H2=>iZ H H2/\∃ x y:Nat,Sat K H2 σ [some (iM x),some (iM y)]/\Nat.gcd x y=Int.gcd a b) (intAt 1) ⟨s1,_,_,S1,rfl⟩ ?_ (λ σ H=>DN σ H)
    rintro σ H2 ⟨s2,x,y,S,hg⟩;refine⟨_,decide (y≠0),S,?_,λ H3 s3=>?_⟩
    ·simp[Fb,iM];rw[bH];simp
    ·show(if decide (y≠0)=true then _ else _)
     by_cases hy:y=0
     ·subst hy;rw[ah (by simp)];refine⟨_,.rt (iM x),S.ext s3,rfl,λ H4 s4 v iv=>q v H4 ((s2.trans s3).trans s4) ?_⟩;rw[Nat.gcd_zero_right]at hg;rw[<-hg];exact iv
     ·rw[af (by simpa using hy)]
      refine⟨_,.nx [some (iM y),some (iM (x % y))],S.ext s3,?_,λ H4 s4 σ4 S4=>⟨⟨(s2.trans s3).trans s4,y,x % y,S4,?_⟩,?_⟩⟩
      ·have:0<y:=by lia
       simp[dIC,iM,this]
      ·rw[<-hg,hJ x y,Nat.gcd_rec y x,hJ]
      ·rw[ux S4 (i:=1) rfl,ux S (i:=1) rfl];exact fY _ (by lia)
theorem qe (T:Txt K mg):OkT P w base T.nR 1 (spD K 2 rV):=by
 refine T.nR.F.ok pY (λ vs H Q E h=>?_) (λ cdv A outer s H vs Q E hr h=>?_)
 ·obtain⟨ds,d,hl,is,_⟩:=h;rw[is.length,hl];rfl
 ·obtain⟨ds,d,hl,is,e,q⟩:=h
  obtain⟨a,b,rfl,hc,rfl⟩:=Du e
  ··clear e
    obtain⟨h1,h2⟩:=pP (a:=a) hc.1;obtain⟨h3,h4⟩:=Bw (a:=a) hc.1;have h5:0<(Int.gcd a b:Int)/\bd (Int.gcd a b:Int):=⟨h3,OG hc.2 (by lia) h4⟩;refine⟨_,iW (mr (i:=2) (j:=3) rfl pY.nd (iK (jx GS T.Hx boot_abs (iK (dv 0) iS)) (iK (jx GS T.Hx boot_abs (iK (dv 1) iS)) iS)))
     (iW (tN bC (jK (r9 (jh hr)) (dv 3) ji) (i9 (mr (i:=2) (j:=3) rfl pY.nd (iK (dv 3) (iK (kC Kg (dv 2) (dv 3)) iS)))))
     (je (lH (jK Kf (dv 1) ji) (i9 (k8 (i:=2) pY.nd (kC GI ji (dv 2)))) jR) (i9 (jm (nT (iK (kC AD (dv 0) (dv 2)) (iK (kC AD (dv 1) (dv 2)) iS))))))),?_⟩
    refine⟨_,.nx [some (.int a),some (.int b),some (iM a.natAbs),some (iM b.natAbs)],is.start,?_,λ H1 s1 σ1 S1=>?_⟩
    ·simp[G1,iM]
    ·refine CH (λ σ H2=>iZ H H2/\∃ x y:Nat,Sat K H2 σ [some (.int a),some (.int b),some (iM x),some (iM y)]/\Nat.gcd x y=Int.gcd a b) (intAt 3) ⟨s1,_,_,S1,rfl⟩ ?_ (λ σ H=>DN σ H)
     rintro σ H2 ⟨s2,x,y,S,hg⟩;refine⟨_,decide (y≠0),S,?_,λ H3 s3=>?_⟩
     ·simp[iM];rw[bH];simp
     ·show(if decide (y≠0)=true then _ else _)
      by_cases hy:y=0
      ·subst hy
       rw[ah (by simp)];rw[Nat.gcd_zero_right]at hg;refine⟨_,.rt (iO (Rat.divInt a b)),S.ext s3,?_,λ H4 s4 v iv=>q v H4 ((s2.trans s3).trans s4) iv⟩;have hnb:¬ b<0:=by lia
       unfold iO;rw[h1,h2];rw[hg];simp[iM,hnb,dIC,h5,show b≠0 by lia]
      ·rw[af (by simpa using hy)]
       refine⟨_,.nx [some (.int a),some (.int b),some (iM y),some (iM (x % y))],S.ext s3,?_,λ H4 s4 σ4 S4=>⟨⟨(s2.trans s3).trans s4,y,x % y,S4,?_⟩,?_⟩⟩
       ·have:0<y:=by lia
        simp[dIC,iM,this]
       ·rw[<-hg,hJ x y,Nat.gcd_rec y x,hJ]
       ·rw[ux S4 (i:=3) rfl,ux S (i:=3) rfl];exact fY _ (by lia)
end
section
variable {P:Program}{w:World}{K:iF}{mg:iq}{base:Heap}
theorem oN (T:Txt K mg):OkT P w base T.mQ 2 (spD K 2 jT):=T.mQ.okD (g:=sN) wO (λ _ _ _ _ _ _ hr=>(je (k8 (i:=2) wO.nd (dC T.lE (oM T) hr (iK (dv 0) (iK (dv 1) iS)))) (i9 (jm (nT (iK (kC AD (dv 0) (dv 2)) (iK (kC AD (dv 1) (dv 2)) iS))))))) Dw
theorem NR (T:Txt K mg):OkT P w base T.FU 3 (spD K 2 qM):=T.FU.okD (g:=Fl) NK (λ _ _ _ _ _ _ hr=>(i9 (jm (dC T.mQ (oN T) hr (iK (kC GG (kC lL (jA (dv 0) ji) (jA (dv 1) ji)) (kC lL (jA (dv 1) ji) (jA (dv 0) ji))) (iK (kC lL (jA (dv 0) ji) (jA (dv 1) ji)) iS)))))) GW
theorem zI (T:Txt K mg):OkT P w base T.uV 3 (spD K 2 mR):=T.uV.okD (g:=BV) LC (λ _ _ _ _ _ _ hr=>(i9 (jm (dC T.mQ (oN T) hr (iK (kC GI (kC lL (jA (dv 0) ji) (jA (dv 1) ji)) (kC lL (jA (dv 1) ji) (jA (dv 0) ji))) (iK (kC lL (jA (dv 0) ji) (jA (dv 1) ji)) iS)))))) D8
theorem Es (T:Txt K mg):OkT P w base T.xC 3 (spD K 2 my):=T.xC.okD (g:=Bu) LD (λ _ _ _ _ _ _ hr=>(i9 (jm (dC T.mQ (oN T) hr (iK (kC lL (jA (dv 0) ji) (jA (dv 1) ji)) (iK (kC lL (jA (dv 0) ji) (jA (dv 1) ji)) iS)))))) Dx
theorem uX (T:Txt K mg):OkT P w base T.rZ 4 (spD K 1 oz):=T.rZ.okD (g:=Bv) zy (λ _ _ _ _ _ _ hr=>(je (k8 (i:=1) zy.nd (dG T.FW)) (je (Ke bC rfl (nV (dv 0)) (pgo 2) kS (i9 (k8 (i:=1) zy.nd (dC T.FU (NR T) hr (iK (dv 1) (iK (dv 2) iS)))))) (i9 (jm (dv 1)))))) KC
theorem zJ (T:Txt K mg):OkT P w base T.oX 2 (spD K 1 lM):=T.oX.okD (g:=oR) zx (λ _ _ _ _ _ _ hr=>(je (lH (w9 (oy (kH (kI (jx wd T.ko boot_isinstance (iK (dv 0) (iK (C5 T.lT boot_tuple) iS))))) (nc (jK (r9 (jh hr)) (jx qK T.nD bT (iK (dv 0) iS)) ji)))) (i9 (jm qG)) jR) (je (oQ (dv 0) (jS rfl (jc (pgo 1) (jc (pgo 2) jH))) j9) (je (lH (w9 (oy (kH (kI (dC T.mP (oK T) hr (iK (dv 1) iS)))) (nc (kH (kI (dC T.mP (oK T) hr (iK (dv 2) iS))))))) (i9 (jm qG)) jR) (i9 (jm (ua (qH Sk (dv 2) ji) (wa (qH (ug (jh hr)) (dC T.lE (oM T) hr (iK (dv 1) (iK (dv 2) iS))) ji))))))))) yz
theorem pG (T:Txt K mg):OkT P w base T.lR 3 (spD K 2 kM):=T.lR.okD (g:=nq) vR (λ _ _ _ _ _ _ hr=>(je (lH (w9 (oy (kH (kI (jx wd T.ko boot_isinstance (iK (dv 0) (iK (C5 T.lT boot_tuple) iS))))) (nc (jK (r9 (jh hr)) (jx qK T.nD bT (iK (dv 0) iS)) (dv 1))))) (i9 (jm qG)) jR) (i9 (jm (jx (GV rfl) T.Hw boot_all (iK (r8 rfl (csc ["one"] [] []) (nV (dv 0)) (λ _ _ _ _=>(pgo 0)) jX kS (λ _ _ _ _=>lW) (λ _ _ _ _=>(dC T.oX (zJ T) hr (iK (dv 0) iS)))) iS)))))) vG
theorem IU (T:Txt K mg):OkT P w base T.zE 4 (spD K 1 uq):=T.zE.okD (g:=yD) IP (λ _ _ _ _ _ _ hr=>(je (lH (w9 (oy (kH (kI (jx wd T.ko boot_isinstance (iK (dv 0) (iK (C5 T.lT boot_tuple) iS))))) (nc (jK (r9 (jh hr)) (jx qK T.nD bT (iK (dv 0) iS)) ji)))) (i9 (jm qG)) jR) (je (oQ (dv 0) (jS rfl (jc (pgo 1) (jc (pgo 2) jH))) j9) (je (lH (w9 (oy (kH (kI (dC T.mP (oK T) hr (iK (dv 1) iS)))) (nc (kH (J5 Qg Qg (dG T.xh) (dv 1) (dG T.Ac)))))) (i9 (jm qG)) jR) (je (lH (w9 (oy (kH (kI (jx wd T.ko boot_isinstance (iK (dv 2) (iK (C5 T.lT boot_tuple) iS))))) (nc (kH (kI (jx (GV rfl) T.Hw boot_all (iK (r8 rfl (csc ["tie"] ["many"] [1]) (nV (dv 2)) (λ _ _ _ _=>(pgo 0)) jX kS (λ _ _ _ _=>lW) (λ _ _ _ _=>(dC T.zD (IQ T) hr (iK (dv 1) (iK (dv 0) iS))))) iS))))))) (i9 (jm qG)) jR) (i9 (jm (ua (dC T.rh (Ce T) hr (iK (dv 2) iS)) (wa (qH (ug (jh hr)) (jx Qk T.nD bT (iK (dC T.oG (uW T) hr (iK (dv 2) (iK ji iS))) iS)) (dv 1))))))))))) IB
theorem qf (T:Txt K mg):OkT P w base T.mV 5 (spD K 1 l9):=T.mV.okD (g:=qQ) B7 (λ _ _ _ _ _ _ hr=>(i9 (lH (kH (kI (dC T.zE (IU T) hr (iK (dv 0) iS)))) (i9 qJ) jR))) By
theorem lr (T:Txt K mg):OkT P w base T.ku 3 (spD K 2 j6):=T.ku.okD (g:=oT) zA (λ _ _ _ _ _ _ hr=>(i9 (lH (kH (kI (dC T.nZ (rE T) hr (iK (jA (dv 0) ji) (iK (dv 1) iS))))) (i9 qJ) jR))) yE
theorem Cf (T:Txt K mg):OkT P w base T.rn 1 (spD K 2 oE):=T.rn.okD (g:=qV) B8 (λ _ _ _ _ _ _ hr=>(i9 (lH (jK (ug (jh hr)) (dv 0) (dv 1)) (i9 qJ) jR))) BR
theorem oZ (T:Txt K mg):OkT P w base T.mD 6 (spD K 3 lD):=T.mD.okD (g:=pU) Aa (λ _ _ _ _ _ _ hr=>(je (lN (dC T.mV (qf T) hr (iK (dv 0) iS))) (je (lN (dC T.ku (lr T) hr (iK (dv 0) (iK (dv 1) iS)))) (je (lN (dC T.ku (lr T) hr (iK (dv 0) (iK (dv 2) iS)))) (i9 (lN (dC T.rn (Cf T) hr (iK (dv 1) (iK (dv 2) iS))))))))) z9
theorem LP (T:Txt K mg):OkT P w base T.Cc 6 (spD K 3 xx):=T.Cc.okD (g:=BJ) LF (λ _ _ _ _ _ _ hr=>(je (lN (dC T.mV (qf T) hr (iK (dv 0) iS))) (je (lN (dC T.ku (lr T) hr (iK (dv 0) (iK (dv 1) iS)))) (je (lN (dC T.ku (lr T) hr (iK (dv 0) (iK (dv 2) iS)))) (i9 (jm (ON (Nat.lt_of_succ_lt (jh hr)) (dC T.oG (uW T) hr (iK (jA (dv 0) ji) (iK (dv 1) iS))) (dv 2)))))))) K4
theorem FZ (T:Txt K mg):OkT P w base T.vT 1 (spD K 4 nO):=T.vT.okD (g:=vN) FQ (λ _ _ _ _ _ _ hr=>(i9 (jm (r8 rfl (csc ["one","other"] ["former","lead","at","row"] [3,1,2,0]) (Dq false false T.AV (iK (dv 0) (iK (dv 1) iS))) (λ _ _ _ _=>(jS rfl (jc (pgo 0) (jc (pgo 1) jH)))) (mj (jE (by decide) (jE (by decide) lC))) j9 (λ _ _ _ _=>lW) (λ _ _ _ _=>(kC AD (kC GI (kC lL (jA (dv 3) (dv 4)) (dv 0)) (kC lL (jA (dv 5) (dv 4)) (dv 1))) (dv 2))))))) FD
theorem IV (T:Txt K mg):OkT P w base T.zC 3 (spD K 1 pA):=T.zC.okD (g:=zd) nQ (λ _ _ _ _ _ _ hr=>(je (k8 (i:=1) nQ.nd (o7 K8 T.LI boot_list (iK (dv 0) iS))) (je (k8 (i:=2) nQ.nd ji) (je (Ke bC rfl (pO T.kq (iK (jx qK T.nD bT (iK (dv 0) iS)) iS)) (pgo 3) kS (je (k8 (i:=4) nQ.nd (jA (dv 1) (dv 3))) (je (AB (i:=1) nQ.nd rfl (csc ["k","row"] ["at","lead","former"] [3,4,2]) (Nr false T.Ep (iK (dv 1) iS)) (λ _ _ _ _=>(jS rfl (jc (pgo 0) (jc (pgo 1) jH)))) (mj (jE (by decide) (jE (by decide) lC))) j9 (λ _ _ _ _=>lW) (λ _ _ _ _=>(J6 (jK (ug (jh hr)) (dv 0) (dv 2)) (dv 1) (dC T.vT (FZ T) hr (iK (dv 1) (iK (dv 3) (iK (dv 2) (iK (dv 4) iS)))))))) (i9 (k8 (i:=2) nQ.nd (jA (dv 4) (dv 3))))))) (i9 (jm (o7 uj T.lT boot_tuple (iK (r8 rfl (csc ["row"] ["former"] [2]) (nV (dv 1)) (λ _ _ _ _=>(pgo 0)) jX kS (λ _ _ _ _=>lW) (λ _ _ _ _=>(dC T.mQ (oN T) hr (iK (jA (dv 0) (yW ji)) (iK (dv 1) iS))))) iS)))))))) IK
theorem qg (T:Txt K mg):OkT P w base T.mX 2 (spD K 2 l_):=T.mX.okD (g:=we) B_ (λ _ _ _ _ _ _ hr=>(i9 (jm (dC T.nR (qe T) hr (iK (kC GG (kC lL (jA (dv 0) ji) (jA (dv 1) ji)) (kC lL (jA (dv 1) ji) (jA (dv 0) ji))) (iK (kC lL (jA (dv 0) ji) (jA (dv 1) ji)) iS)))))) BC
theorem Cg (T:Txt K mg):OkT P w base T.rC 2 (spD K 2 ra):=T.rC.okD (g:=wm) Ca (λ _ _ _ _ _ _ hr=>(i9 (jm (dC T.nR (qe T) hr (iK (kC GI (kC lL (jA (dv 0) ji) (jA (dv 1) ji)) (kC lL (jA (dv 1) ji) (jA (dv 0) ji))) (iK (kC lL (jA (dv 0) ji) (jA (dv 1) ji)) iS)))))) B5
theorem o3 (T:Txt K mg):OkT P w base T.mE 2 (spD K 2 kJ):=T.mE.okD (g:=ur) Ab (λ _ _ _ _ _ _ hr=>(i9 (jm (dC T.nR (qe T) hr (iK (kC lL (jA (dv 0) ji) (jA (dv 1) ji)) (iK (kC lL (jA (dv 0) ji) (jA (dv 1) ji)) iS)))))) z7
theorem qh (T:Txt K mg):OkT P w base T.mY 1 (spD K 2 ma):=T.mY.okD (g:=qT) Cb (λ _ _ _ _ _ _ hr=>(i9 (jm (r8 rfl (csc ["_law_other"] ["_law_web_here","_law_place"] [0,1]) (pO T.kq (iK (jA (dv 0) ji) iS)) (λ _ _ _ _=>(pgo 0)) jX kS (λ _ _ _ _=>(sL (jK (Vp (jh hr)) (nT (iK (jx (Ku rfl) T.Hy boot_min (iK (dv 2) (iK (dv 0) iS))) (iK (jx (Kv rfl) T.Hz boot_max (iK (dv 2) (iK (dv 0) iS))) iS))) (jA (dv 1) ji)))) (λ _ _ _ _=>(dv 0)))))) BL
theorem nA (T:Txt K mg):OkT P w base T.lj 1 (spD K 2 kB):=T.lj.okD (g:=nY) xg (λ _ _ _ _ _ _ hr=>(i9 (jm (qH Sk (kC lL (jA (dv 0) ji) (jA (dv 1) ji)) (kC lL (jA (dv 1) ji) (jA (dv 0) ji)))))) xc
end
section
variable {P:Program}{w:World}{K:iF}{mg:iq}{base:Heap}
theorem Et (T:Txt K mg):OkT P w base T.tj 2 (spD K 4 pS):=by
 refine T.tj.F.ok rg (λ vs H Q E h=>?_) (λ cdv A outer s H vs Q E hr h=>?_)
 ·obtain⟨ds,d,hl,is,_⟩:=h;rw[is.length,hl];rfl
 ·obtain⟨ds,d,hl,is,e,q⟩:=h
  match ds,e with
  | [x,y,.dct kvs,.lst es],e =>
   obtain⟨v,e1,f1⟩:=iP (show(dW x).bind _=_ from e);obtain⟨b,e2,f2⟩:=iP f1;obtain⟨as,e3,f3⟩:=iP f2;by_cases hc:b<v.1/\as.length=v.1
   ·rw[af hc]at f3
    cases f3;clear e f1 f2;obtain⟨rfl,hg⟩:=kd e1;have e2:=jo e2;have e3:=lY e3;subst e2 e3;refine⟨SV K,iW (oQ (dv 0) (jS rfl (jc (pgo 4) (jc (pgo 5) jH))) j9)
     (iW (jC (i:=6) rg.nd rfl (Or.inl rfl) (jP Ba (me (iR jd jb)) (pv 4)))
     (iW (vW (Jn (PN (Ow hr) (pv 1) (pv 2)) (by with_unfolding_all rfl)) (iW (m6 jd (oO (pv 6) (pv 1) set_list)) (jw (jm (kC Kq (dv 6) (J7 (iK (ON (Nat.lt_of_succ_lt (jh hr)) (dv 2) (dv 1)) iS)))))) ou)
     (iW (jC (i:=7) rg.nd rfl (Or.inl rfl) (dC T.pE (tG T) hr (iK (dv 5) (iK (dv 1) iS))))
     (iW (mI bC rfl (GZ (dv 7)) (pgo 8) (jw (m6 (yW ji) (oO (pv 6) (pv 8) set_list))))
     (iW (m6 (jx qK T.nD bT (iK (dv 7) iS)) (oO (pv 6) (pv 1) set_list))
     (jw (jm (kC Kq (dv 6) (J7 (iK (jA (dv 3) (dv 1)) iS)))))))))),?_⟩
    exact hg.KD hc.1 hc.2 is.start q
   ·rw[ah hc]at f3;cases f3
theorem rF (T:Txt K mg):OkT P w base T.n_ 4 (spD K 3 lg):=T.n_.okD (g:=sY) El (λ _ _ _ _ _ _ hr=>(i9 (jm (dC T.zC (IV T) hr (iK (r8 rfl (csc ["place"] ["web","given","added"] [0,1,2]) (pO T.kq (iK (jA (dv 0) ji) iS)) (λ _ _ _ _=>(pgo 0)) jX kS (λ _ _ _ _=>lW) (λ _ _ _ _=>(dC T.tj (Et T) hr (iK (dv 1) (iK (dv 0) (iK (dv 2) (iK (dv 3) iS))))))) iS))))) D3
theorem Eu (T:Txt K mg):OkT P w base T.xD 6 (spD K 2 uJ):=T.xD.okD (g:=BO) LG (λ _ _ _ _ _ _ hr=>(je (lN (dC T.mV (qf T) hr (iK (dv 0) iS))) (je (lN (dC T.ku (lr T) hr (iK (dv 0) (iK (dv 1) iS)))) (i9 (jm (dC T.n_ (rF T) hr (iK (dv 0) (iK (Hb (dv 1) ji) (iK (dC T.vU (FX T) hr (iK (dv 0) iS)) iS))))))))) Lh
theorem vV (T:Txt K mg):OkT P w base T.ny 5 (spD K 3 lQ):=T.ny.okD (g:=nv) vS (λ _ _ _ _ _ _ hr=>(i9 (jm (dC T.n_ (rF T) hr (iK (dv 0) (iK (Ny (dv 1) ji (dv 2) ji) (iK (kC Sn (J7 (iK ji iS)) (jA (dv 0) ji)) iS))))))) vO
theorem Ad (T:Txt K mg):OkT P w base T.p_ 5 (spD K 3 kK):=T.p_.okD (g:=pW) oW (λ _ _ _ _ _ _ hr=>(je (AB (i:=3) oW.nd rfl (csc ["lesser","greater","much"] ["place"] [2]) (Dq true true T.AV (iK (jA (dv 0) ji) (iK (dv 1) iS))) (λ _ _ _ _=>(jS rfl (jc (jS rfl (jc (pgo 0) (jc (pgo 1) jH))) (jc (pgo 2) jH)))) (D7 (by decide) (by decide) (by decide)) D6 (λ _ _ _ _=>(sL (jK (ug (jh hr)) (dv 0) (dv 3)))) (λ _ _ _ _=>(dv 2))) (je (AB (i:=4) oW.nd rfl (csc ["lesser","greater","much"] ["place"] [2]) (Dq true true T.AV (iK (jA (dv 0) ji) (iK (dv 1) iS))) (λ _ _ _ _=>(jS rfl (jc (jS rfl (jc (pgo 0) (jc (pgo 1) jH))) (jc (pgo 2) jH)))) (D7 (by decide) (by decide) (by decide)) D6 (λ _ _ _ _=>(sL (jK (ug (jh hr)) (dv 1) (dv 3)))) (λ _ _ _ _=>(dv 2))) (i9 (jm (dC T.uV (zI T) hr (iK (dC T.rZ (uX T) hr (iK (dv 3) iS)) (iK (dC T.rZ (uX T) hr (iK (dv 4) iS)) iS)))))))) z_
theorem qi (T:Txt K mg):OkT P w base T.mW 7 (spD K 4 kE):=T.mW.okD (g:=qX) uS (λ _ _ _ _ _ _ hr=>(je (lN (dC T.mD (oZ T) hr (iK (dv 0) (iK (dv 1) (iK (dv 2) iS))))) (je (oQ (dv 0) (jS rfl (jc (pgo 4) (jc (pgo 5) jH))) j9) (je (lH (kH (kI (dC T.lR (pG T) hr (iK (dv 3) (iK (jx qK T.nD bT (iK (dv 5) iS)) iS))))) (i9 (jm qG)) jR) (je (k8 (i:=6) uS.nd (r8 rfl (csc ["place"] ["web","thing"] [0,3]) (pO T.kq (iK (dv 4) iS)) (λ _ _ _ _=>(pgo 0)) jX kS (λ _ _ _ _=>lW) (λ _ _ _ _=>(dC T.p_ (Ad T) hr (iK (dv 1) (iK (dv 2) (iK (dv 0) iS))))))) (i9 (jm (jx (GV rfl) T.Hw boot_all (iK (r8 rfl (csc ["place"] ["more","a","b"] [6,1,2]) (pO T.kq (iK (dv 4) iS)) (λ _ _ _ _=>(pgo 0)) jX kS (λ _ _ _ _=>(sL (jK (r9 (jh hr)) (dv 0) (dv 3)))) (λ _ _ _ _=>(qH (ug (jh hr)) (jA (dv 1) (dv 0)) (J6 (jK (ug (jh hr)) (dv 0) (dv 2)) (dG T.O1) (dG T.FW))))) iS))))))))) BY
theorem Ci (T:Txt K mg):OkT P w base T.zF 8 (spD K 4 qW):=T.zF.okD (g:=FJ) NL (λ _ _ _ _ _ _ hr=>(je (lH (kH (kI (dC T.mW (qi T) hr (iK (dv 0) (iK (dv 1) (iK (dv 2) (iK (dv 3) iS))))))) (i9 qJ) jR) (i9 (jm (dC T.rZ (uX T) hr (iK (r8 rfl (csc ["much"] [] []) (nV (dv 3)) (λ _ _ _ _=>(pgo 0)) jX kS (λ _ _ _ _=>lW) (λ _ _ _ _=>(dC T.xC (Es T) hr (iK (dv 0) (iK (dv 0) iS))))) iS)))))) NG
theorem tH (T:Txt K mg):OkT P w base T.pF 7 (spD K 3 nP):=T.pF.okD (g:=vQ) FT (λ _ _ _ _ _ _ hr=>(je (lN (dC T.mD (oZ T) hr (iK (dv 0) (iK (dv 1) (iK (dv 2) iS))))) (i9 (jm (dC T.n_ (rF T) hr (iK (dv 0) (iK (Hb (dv 2) ji) (iK (r8 rfl (csc ["place"] ["a"] [1]) (pO T.kq (iK (jA (dv 0) ji) iS)) (λ _ _ _ _=>(pgo 0)) jX kS (λ _ _ _ _=>lW) (λ _ _ _ _=>(J6 (jK (ug (jh hr)) (dv 0) (dv 1)) ji ji))) iS)))))))) FN
theorem HA (T:Txt K mg):OkT P w base T.Cd 8 (spD K 3 vP):=T.Cd.okD (g:=FK) Ht (λ _ _ _ _ _ _ hr=>(je (k8 (i:=3) Ht.nd (dC T.pF (tH T) hr (iK (dv 0) (iK (dv 1) (iK (dv 2) iS))))) (i9 (jm (o7 uj T.lT boot_tuple (iK (r8 rfl (csc ["lesser","greater"] ["high"] [3]) (nV (jA (dv 0) ji)) (λ _ _ _ _=>(jS rfl (jc (pgo 0) (jc (pgo 1) jH)))) (mj (jE (by decide) (jE (by decide) lC))) j9 (λ _ _ _ _=>lW) (λ _ _ _ _=>(dC T.uV (zI T) hr (iK (jA (dv 2) (dv 0)) (iK (jA (dv 2) (dv 1)) iS))))) iS)))))) NH
theorem lF (T:Txt K mg):OkT P w base T.kF 8 (spD K 3 kn):=T.kF.okD (g:=qY) uT (λ _ _ _ _ _ _ hr=>(je (k8 (i:=3) uT.nd (dC T.pF (tH T) hr (iK (dv 0) (iK (dv 1) (iK (dv 2) iS))))) (i9 (jm (jA (dv 3) (dv 1)))))) BZ
theorem Cj (T:Txt K mg):OkT P w base T.rq 4 (spD K 4 md):=T.rq.okD (g:=qZ) B9 (λ _ _ _ _ _ _ hr=>(i9 (jm (ua (dC T.lR (pG T) hr (iK (dv 3) (iK (jA (dv 0) ji) iS))) (ua (qH (ug (jh hr)) (jA (dv 3) (dv 1)) (dG T.O1)) (wa (qH (ug (jh hr)) (jA (dv 3) (dv 2)) (dG T.FW)))))))) B2
theorem NS (T:Txt K mg):OkT P w base T.FV 5 (spD K 2 sZ):=T.FV.okD (g:=FO) Hu (λ _ _ _ _ _ _ hr=>(je (AB (i:=2) Hu.nd rfl (csc ["lesser","greater"] ["levels"] [1]) (nV (jA (dv 0) ji)) (λ _ _ _ _=>(jS rfl (jc (pgo 0) (jc (pgo 1) jH)))) (mj (jE (by decide) (jE (by decide) lC))) j9 (λ _ _ _ _=>lW) (λ _ _ _ _=>(dC T.uV (zI T) hr (iK (jA (dv 2) (dv 0)) (iK (jA (dv 2) (dv 1)) iS))))) (i9 (jm (dC T.rZ (uX T) hr (iK (r8 rfl (csc ["fall"] [] []) (nV (dv 2)) (λ _ _ _ _=>(pgo 0)) jX kS (λ _ _ _ _=>lW) (λ _ _ _ _=>(dC T.xC (Es T) hr (iK (dv 0) (iK (dv 0) iS))))) iS)))))) NJ
theorem wU (T:Txt K mg):OkT P w base T.qa 8 (spD K 4 lX):=T.qa.okD (g:=s9) Em (λ _ _ _ _ _ _ hr=>(je (lN (dC T.mD (oZ T) hr (iK (dv 0) (iK (dv 1) (iK (dv 2) iS))))) (je (lH (w9 (oy (kH (kI (jx wd T.ko boot_isinstance (iK (dv 3) (iK (C5 T.lT boot_tuple) iS))))) (nc (jK (r9 (jh hr)) (jx qK T.nD bT (iK (dv 3) iS)) ji)))) (i9 (jm qG)) jR) (je (oQ (dv 3) (jS rfl (jc (pgo 4) (jc (pgo 5) jH))) j9) (i9 (jm (ua (dC T.mW (qi T) hr (iK (dv 0) (iK (dv 1) (iK (dv 2) (iK (dv 4) iS))))) (wa (dC T.rq (Cj T) hr (iK (dv 0) (iK (dv 1) (iK (dv 2) (iK (dv 5) iS))))))))))))) Ee
theorem Ew (T:Txt K mg):OkT P w base T.xE 9 (spD K 4 pX):=T.xE.okD (g:=B0) LH (λ _ _ _ _ _ _ hr=>(je (lH (kH (kI (dC T.qa (wU T) hr (iK (dv 0) (iK (dv 1) (iK (dv 2) (iK (dv 3) iS))))))) (i9 qJ) jR) (je (oQ (dv 3) (jS rfl (jc (pgo 4) (jc (pgo 5) jH))) j9) (je (oQ (dC T.FV (NS T) hr (iK (dv 0) (iK (dv 5) iS))) (jS rfl (jc (pgo 6) (jc (pgo 7) jH))) j9) (i9 (jm (nT (iK (nT (iK (dv 7) (iK (dv 6) iS))) (iK (dC T.zF (Ci T) hr (iK (dv 0) (iK (dv 1) (iK (dv 2) (iK (dv 4) iS))))) iS))))))))) Lu
theorem Cm (T:Txt K mg):OkT P w base T.rz 9 (spD K 3 oF):=T.rz.okD (g:=q_) uU (λ _ _ _ _ _ _ hr=>(je (k8 (i:=3) uU.nd (dC T.Cd (HA T) hr (iK (dv 0) (iK (dv 1) (iK (dv 2) iS))))) (i9 (jm (nT (iK (dv 3) (iK (dC T.ny (vV T) hr (iK (dv 0) (iK (dv 1) (iK (dv 2) iS)))) iS))))))) B3
end
end K44
namespace L2
open PySem PySem.Spec PyProof.Rows Zp Qs PySem.SeqAt
section
open PySem.AutoSeq1 (wpAny_loadPart')
open PySem.MeetsSeq PySem.MeetsSeq2 PySem.MeetsSeq3
theorem Cn (l:Addr)(items:Array iG)(n:Nat)(dd:iA Addr)(sl:Array (iA iG))(x:iG)(e:Nat->Bool)(j:Nat)(hj:j<items.size)(h1:e j=true)(h2:∀ (m:Nat),m<j->e m=false) :
  Meets (Builtin.«tuple.index» ⟨[.ref l,x],[]⟩)
   (λ A R s=>s.heap.get? l=some {cls:=.type "tuple",dict:=dd,data:=.seq items n,slots:=sl}/\(∀ m (hm:m<items.size),EqAt A.in1 s items[m] x (e m))/\R (.ok (.ret (.int j s.toks))) {s with toks:=s.toks+1}) :=
 .of_wp λ prog w A R s h=>by
  obtain⟨hp,g,d,tk,os⟩:=s;obtain⟨hl,he,h⟩:=h;unfold Builtin.«tuple.index»;simp only[Std.Legacy.Range.forIn_eq_forIn_range']
  wp_walk using wpAny_loadPart' hl,wpAny_forIn_list _ (λ rest b s'=>b.1=none/\s'=⟨hp,g,d,tk,os⟩/\∃ i,i<=j/\rest=List.range' i (items.size-i)) _
  case turn =>
   rintro i rest b s' ⟨hb',rfl,i0,hi0,hz⟩;have hk:items.size-i0=(items.size-(i0+1))+1:=by lia
   rw[hk,List.range'_succ]at hz;injection hz with hz1 hz2;subst hz1;have hi:i<items.size:=by lia
   have gi:items[i]?=some items[i]:=Array.getElem?_eq_getElem hi;simp only[gi];refine aa (he i hi prog w _ _ ?_);cases hq:e i with
   | true =>
    have:i=j:=aR λ ne=>by have:=h2 i (by lia);rw[hq]at this;cases this
    subst this
    wp_walk
    exact⟨_,rfl,h⟩
   | false =>
    have:i≠j:=λ z=>by subst z;rw[h1]at hq;cases hq
    wp_walk
    exact⟨rfl,rfl,i+1,by lia,hz2⟩
  case fin =>rintro b s' ⟨hb',rfl,i0,hi0,hz⟩;have:=cK List.length hz;simp at this;lia
  case h =>refine⟨rfl,rfl,0,bg _,?_⟩;simp
end
section
variable {X:Cx}{o e:Expr}
def NT (x y:Dt):iA Dt:=(xJ x).bind λ es=>if (es.all λ e=>sh2 e y)=true then (es.findIdx? λ e=>dEq e y).map λ(j:Nat)=>Dt.int j else none
def VB (K:iF):V->List V->Hp->VK->Prop:=λ x xs H Q=>∃ y es d j,xs=[y]/\Is K H x (.tup es)/\Is K H y d/\(es.all λ e=>sh2 e d)=true/\(es.findIdx? λ e=>dEq e d)=some j/\Q (.int (j:Nat)) H
theorem LQ (hu:X.A.units+2<cLine):MtR X "tuple.index" (VB X.K):=by
 intro pins s σ H x xs v us Q I rx rv h;obtain⟨y,es,d,j,rfl,i1,i2,sh,fj,q⟩:=h;obtain⟨u,rfl,ru⟩:=rv.one;have hu1:X.A.in1.units<cLine:=by have:X.A.in1.units=X.A.units+1:=rfl;lia
 obtain⟨p,ys,rfl,hp,js⟩:=i1.jy;cases rx;obtain⟨its,rvs,pl,hz⟩:=I.tuple hp;obtain⟨hj,hj1,hj2⟩:=fG.mp fj;have hl:its.length=es.length:=by rw[<-rvs.length,js.length]
 obtain⟨⟨cls,dd,data,sl⟩,ho,hc,n,hd⟩:=id pl;simp only at hc hd;subst hc hd;refine call_meets F.slot_tuple_index ⟨_,ho,rfl⟩ F.entry_tuple_index (F.args_tuple_index_2 _ _) (Cn p its.toArray n dd sl u (λ m=>match es[m]? with | some e=>dEq e d | none=>false) j (by rw[aM];lia) (by simp only[aC hj];exact hj1) (λ m hm=>by simp only[aC (show m<es.length by lia)];exact Bool.eq_false_iff.mpr (hj2 m hm))) ⟨ho,λ m hm=>?_,?_⟩
 ·rw[aM]at hm
  have hm':m<es.length:=by lia
  have em:es[m]?=some es[m]:=aC hm';obtain⟨v,u',hu',rv',iv⟩:=js.vals I rvs em;have:its[m]?=some its[m]:=aC hm;rw[this]at hu';cases hu';simp only[em];have:=GP I hu1 (dz.mp sh es[m] (cJ hm')) iv i2 rv' ru;simpa using this
 ·exact⟨.int j,H,I.tok _,⟨_,rfl⟩,q⟩
def VC (K:iF)(r:V->List V->Hp->VK->Prop)(to:TE)(t:TA):TE:=λ σ H Q=>to σ H λ x H1=>(∃ a xs,x=.ref a/\SqT K H1 a xs)/\t σ H1 λ xs H2=>r x xs H2 Q
theorem Rb {to:TE}{t:TA}{name:Str}{apos cpos:Pos}{id:String}{r:V->List V->Hp->VK->Prop}(slot:Slot "tuple" name id)(hty:typeOf (.builtin id)=pure (.type "method_descriptor"))(hm:MtR X id r)(ho:PE X o to)(ha:PA X [e] t)
  (hbase:attributeBase o name X.env (eval o X.env)=eval o X.env)
  (hfew:((backTo cpos (starEach [e] X.env)).all (λ x=>!x.1)&&(backToKw cpos (keywordEach [] X.env)).all (λ x=>x.1.isSome)&&decide (([e]:List Expr).length+([]:List Keyword).length+(if ([]:List Keyword).isEmpty then 0 else 1)<30))=true)
  (hline:(apos.endLine==cpos.line)=true) (hs:starEach [e] X.env=[(false,eval e X.env)]):PE X (.Call (.Attribute o name apos) [e] [] cpos) (VC X.K r to t):=by
 intro pins s σ H Q I h;refine wpAny_Call_method_late hbase hfew hline rfl (thn (ho pins s σ H _ I h) λ v s1 ⟨x,H1,I1,r1,ty,q1⟩=>?_);obtain⟨a,xs,rfl,hq⟩:=ty;cases r1;obtain⟨its,rv,pl,_⟩:=I1.tuple hq;refine⟨"tuple",id,F.plainAttrs_tuple,slot,hty,pl.typeIs,λ b eb=>by cases eb;exact I1.xJ hq,?_⟩;have hA:=ha cpos pins s1 σ H1 _ I1 q1;rw[hs]at hA ⊢;refine Calls.callWith_builtin rfl (Calls.evalArgs_plain ?_);exact thn hA λ us s2 ⟨vs,H2,I2,r2,q2⟩=>hm pins s2 σ H2 (.ref a) vs (.ref a) us Q I2 rfl r2 q2
theorem NU {apos cpos:Pos}{ga gb:DE->iA Dt}(hu:X.A.units+2<cLine)(ha:PD X o ga)(hb:PD X e gb)(hbase:attributeBase o "index" X.env (eval o X.env)=eval o X.env:=by rfl)
  (hfew:((backTo cpos (starEach [e] X.env)).all (λ x=>!x.1)&&(backToKw cpos (keywordEach [] X.env)).all (λ x=>x.1.isSome)&&decide (([e]:List Expr).length+([]:List Keyword).length+(if ([]:List Keyword).isEmpty then 0 else 1)<30))=true:=by rfl)
  (hline:(apos.endLine==cpos.line)=true:=by rfl) (hs:starEach [e] X.env=[(false,eval e X.env)]:=by rfl):PD X (.Call (.Attribute o "index" apos) [e] [] cpos) (iY NT ga gb) :=
 (Rb F.slot_tuple_index F.type_tuple_index (LQ hu) ha (iR hb jb hs) hbase hfew hline hs).of λ σ H Q hz=>by
  obtain⟨δ,d,S,e1,q⟩:=hz;obtain⟨x,y,f1,f2,f3⟩:=yk e1;obtain⟨es,g1,g2⟩:=iP f3;obtain rfl:=pf g1;by_cases hc:(es.all λ e=>sh2 e y)=true
  ·rw[af hc]at g2;obtain⟨j,g3,rfl⟩:=jr g2;refine⟨δ,_,S,f1,λ v H1 s1 i1=>?_⟩;obtain⟨a,xs,rfl,hq,is⟩:=id i1.jy;refine⟨⟨a,xs,rfl,hq⟩,δ,_,S.ext s1,f2,λ v2 H2 s2 i2=>?_⟩;exact⟨v2,es,y,j,rfl,i1.ext s2,i2,hc,g3,q _ H2 (s1.trans s2) (.int _)⟩
  ·rw[ah hc]at g2;cases g2
end
end L2
namespace K44
open PySem PySem.Spec PyProof.Rows L2 Zp
theorem imW (ww:Web):Imm (i8 ww):=.tup (.cons (.int _) (.cons (.tup (oP.of λ d hd=>by obtain⟨t,_,rfl⟩:=aD.mp hd;exact .tup (.cons (.int _) (.cons (.int _) .nil)))) .nil))
theorem IW (n:Int){m:Nat}(h:0<m):∃ d:Nat,n % (m:Int)=d/\d<m:=⟨(n % (m:Int)).toNat,by have:=bX n (show(m:Int)≠0 by lia);lia,by have:=cC n (show(0:Int)<m by lia);have:=bX n (show(m:Int)≠0 by lia);lia⟩
section
variable {P:Program}{w:World}{K:iF}{mg:iq}{base:Heap}
def HB:Sp:=λ vs H Q _=>∃ (p:Addr) (n far:Int),vs=[.ref p,.int far]/\H p=some (.lst [.int n])/\(0<far/\bd far)/\∀ H',H' p=some (.lst [.int (n / far)])->But p H H'->Q (.int (n % far)) H'
theorem But.of_same {p:Addr}{H H':Hp}(s:iZ H H'):But p H H':=λ b o e _=>s b o e
theorem But.trans' {p:Addr}{H H1 H2:Hp}(a:But p H H1)(b:But p H1 H2):But p H H2:=λ c o e n=>b c o (a c o e n) n
theorem uY (T:Txt K mg):OkT P w base T.jv 1 HB:=by
 refine T.jv.F.ok nH (λ vs H Q E h=>?_) (λ cdv A outer s H vs Q E hr h=>?_)
 ·obtain⟨p,n,far,rfl,_⟩:=h;rfl
 ·obtain⟨p,n,far,rfl,hp,h0,q⟩:=h
  refine⟨_,iW (jC (i:=2) nH.nd rfl (Or.inl rfl) (jP Kg (kW kG (pv 0) jd (λ _ _=>rfl)) (pv 1)))
   (iW (m6 (jP AD (kW kG (pv 0) jd (λ _ _=>rfl)) (pv 1)) (oO (pv 0) jd set_list))
   (jw (lI (pv 2)))),?_⟩
  refine⟨_,rfl,p,_,_,.int n,rfl,rfl,SqL.of hp,rfl,_,rfl,.int n,.int far,.int (n % far),.int _,.int _,af h0.1,λ v H1 s1 i1=>?_⟩;rw[i1.int_inv];have hp1:=s1 _ _ hp;refine⟨_,rfl,p,_,_,.int n,rfl,rfl,SqL.of hp1,rfl,_,rfl,.int n,.int far,.int (n / far),.int _,.int _,af h0,λ v2 H2 s2 i2=>?_⟩;rw[i2.int_inv];have hp2:=s2 _ _ hp1;exact⟨_,rfl,p,_,_,0,rfl,rfl,hp2,rfl,_,rfl,q _ iU ((But.of_same (s1.trans s2)).zG)⟩
theorem HC {t:TA}{σ:L2.St}{H:Hp}{Q:VK}{p:Addr}{n:Int}{L:List Int}(hL:L.length=4)(ht:∀ (R:List V->Hp->Prop),R (L.map V.int) H->t σ H R)(h0:σ[0]?=some (some (.ref p)))(hp:H p=some (.lst [.int n]))
  (q:∀ x∈L,∀ n' H',H' p=some (.lst [.int n'])->But p H H'->Q (.int x) H'):tOp (vn K) (xQ t) (kD HB [] E0 (i_ (jj 0) (i_ (tC (V.int 4)) jG))) σ H Q:=by
 refine ht _ ⟨by rw[ag,hL];show 4<=sizeLine;decide,λ l hl=>?_⟩;have lp:l≠p:=λ z=>by subst z;rw[hl]at hp;cases hp
 have hp1:upd H l (.lst (L.map V.int)) p=some (.lst [.int n]):=by rw[ja (aX lp)];exact hp
 refine⟨_,h0,p,n,4,rfl,hp1,⟨by decide,QH (by decide)⟩,λ H' hp' bt=>?_⟩;have hl':H' l=some (.lst (L.map V.int)):=bt l _ iU lp;obtain⟨d,hd,dm⟩:=IW n (m:=4) (by decide);have e4:(((4:Nat):Int))=4:=rfl;rw[e4]at hd;have hdL:d<L.length:=by lia
 refine⟨l,_,_,.int L[d],rfl,cK V.int hd,SqL.of hl',lx (by rw[ax,aC hdL];rfl),?_⟩;exact q _ (cJ hdL) _ H' hp' (λ b o e nb=>bt b o (by rw[ja (jn e hl)];exact e) nb)
def Co (K:iF):Sp:=λ vs H Q _=>∃ (p:Addr) (n:Int),vs=[.ref p]/\H p=some (.lst [.int n])/\∀ v H' (n':Int) (x:Rat),Is K H' v (iO x)->x.num.natAbs<=2*10 ^ 27->x.den<=10 ^ 27->H' p=some (.lst [.int n'])->But p H H'->Q v H'
theorem uZ (T:Txt K mg):OkT P w base T.lS 2 (Co K):=by
 refine T.lS.F.ok pD (λ vs H Q E h=>?_) (λ cdv A outer s H vs Q E hr h=>?_)
 ·obtain⟨p,n,rfl,_⟩:=h;rfl
 ·obtain⟨p,n,rfl,hp,q⟩:=h
  have hr1:lV 1 _:=hr.mono (by decide);refine⟨_,iW (jC (i:=1) pD.nd rfl (Or.inl rfl) (pC T.jv (uY T) hr (iR (pv 0) (iR (jP m7 (jP sI jd (kW kG (me (iR jd (iR jd (iR (jP vg jd jd) (iR (jP vg jd jd) jb))))) (pC T.jv (uY T) hr (iR (pv 0) (iR jd jb))) (λ _ _=>rfl))) jd) jb))))
   (jw (lI (pC T.nR (qe T) hr (iR (jP ve (pv 1) jd) (iR (jP m7 jd (pC T.jv (uY T) hr (iR (pv 0) (iR (kW kG (me (iR jd (iR jd (iR (jP vg jd jd) (iR (jP vg jd jd) jb))))) (pC T.jv (uY T) hr (iR (pv 0) (iR jd jb))) (λ _ _=>rfl)) jb)))) jb))))),?_⟩
  refine⟨_,rfl,HC (K:=K) (p:=p) (n:=n) (L:=[3,10,10 ^ 6,10 ^ 27]) rfl (λ R h=>⟨_,_,rfl,rfl,⟨by decide,by decide,by decide⟩,_,_,rfl,rfl,⟨by decide,by decide,by decide⟩,h⟩) rfl hp λ x hx n1 H1 hp1 b1=>?_⟩;have hx1:3<=x/\x<=10 ^ 27:=by simp only[aN,cv,or_false]at hx;rcases hx with rfl | rfl | rfl | rfl<;>decide
  refine⟨_,_,rfl,rfl,.inl ⟨by decide,by decide⟩,_,_,rfl,rfl,p,n1,_,rfl,hp1,⟨by lia,?_⟩,λ H2 hp2 b2=>?_⟩
  ·show(2*x+1).natAbs<2 ^ 4000
   have:(2:Nat) ^ 100<=2 ^ 4000:=bN (by decide) (by decide);have:(2*10 ^ 27+1:Nat)<2 ^ 100:=by decide
   lia
  have ht0:0<=n1 % (2*x+1):=bX _ (by lia);have ht1:n1 % (2*x+1)<2*x+1:=cC _ (by lia);generalize n1 % (2*x+1)=t at *;generalize n1 / (2*x+1)=n2 at *;refine⟨_,rfl,_,_,rfl,rfl,_,rfl,HC (K:=K) (p:=p) (n:=n2) (L:=[2,7,10 ^ 6,10 ^ 27]) rfl (λ R h=>⟨_,_,rfl,rfl,⟨by decide,by decide,by decide⟩,_,_,rfl,rfl,⟨by decide,by decide,by decide⟩,h⟩) rfl hp2 λ y hy n3 H3 hp3 b3=>?_⟩;have hy1:2<=y/\y<=10 ^ 27:=by simp only[aN,cv,or_false]at hy;rcases hy with rfl | rfl | rfl | rfl<;>decide
  refine⟨p,n3,y,rfl,hp3,⟨by lia,?_⟩,λ H4 hp4 b4=>?_⟩
  ·show y.natAbs<2 ^ 4000
   have:(2:Nat) ^ 100<=2 ^ 4000:=bN (by decide) (by decide);have:(2*10 ^ 27+1:Nat)<2 ^ 100:=by decide
   lia
  have hu0:0<=n3 % y:=bX _ (by lia);have hu1:n3 % y<y:=cC _ (by lia);generalize n3 % y=u at *;generalize n3 / y=n4 at *;have bu:bd (1+u):=by
   show(1+u).natAbs<2 ^ 4000;have:(2:Nat) ^ 100<=2 ^ 4000:=bN (by decide) (by decide);have:(2*10 ^ 27+1:Nat)<2 ^ 100:=by decide
   lia
  obtain⟨d1,d2⟩:=OR (a:=t-3) (b:=1+u) (by lia);refine⟨_,_,rfl,rfl,[.int (t-3),.int (1+u)],iO (Rat.divInt (t-3) (1+u)),rfl,.cons (.int _) (.cons (.int _) .nil),?_,λ v H5 s5 i5=>?_⟩
  ·show jT [.int (t-3),.int (1+u)]=_;rw[nJ,af ⟨by lia,bu⟩]
  ·exact q v H5 n4 _ i5 (by lia) (by lia) (s5 _ _ hp4) ((b1.trans' b2).trans' ((b3.trans' b4).trans' (But.of_same s5)))
end
theorem NV {a d m:Nat}(ha:a<m)(hd:d+1<m):∃ c:Nat,((a:Int)+1+(d:Int)) % (m:Int)=c/\c<m/\a≠c:=by
 by_cases h:a+1+d<m
 ·exact⟨a+1+d,by rw[Int.emod_eq_of_lt (by lia) (by lia)];lia,h,by lia⟩
 ·refine⟨a+1+d-m,?_,by lia,by lia⟩
  have e:(a:Int)+1+(d:Int)=((a+1+d-m:Nat):Int)+(m:Int):=by lia
  rw[e,Int.add_emod_right,Int.emod_eq_of_lt (by lia) (by lia)]
section
variable {P:Program}{w:World}{K:iF}{mg:iq}{base:Heap}
def O5 (K:iF):Sp:=λ vs H Q _=>∃ (p:Addr) (n:Int) (v:V) (ww:Web),vs=[.ref p,v]/\Good ww/\Is K H v (i8 ww)/\H p=some (.lst [.int n]) /\
 ∀ (t:Addr) (a c:Nat) (n':Int) (H':Hp),a<ww.1->c<ww.1->a≠c->H' p=some (.lst [.int n'])->But p H H'->H' t=some (.tup [iV a,iV c])->Q (.ref t) H'
theorem LR (T:Txt K mg):OkT P w base T.qb 2 (O5 K):=by
 refine T.qb.F.ok wR (λ vs H Q E h=>?_) (λ cdv A outer s H vs Q E hr h=>?_)
 ·obtain⟨p,n,v,ww,rfl,_⟩:=h;rfl
 ·obtain⟨p,n,v,ww,rfl,hg,iw,hp,q⟩:=h
  have hr1:lV 1 _:=hr.mono (by decide);refine⟨_,iW (jC (i:=2) wR.nd rfl (Or.inl rfl) (pC T.jv (lU T) hr (iR (pv 0) (iR (kW pJ (pv 1) jd (λ _ _=>rfl)) jb))))
   (jw (lI (pI (iR (pv 2) (iR (jP vf (jP m7 (jP m7 (pv 2) jd) (pC T.jv (lU T) hr (iR (pv 0) (iR (jP ve (kW pJ (pv 1) jd (λ _ _=>rfl)) jd) jb)))) (kW pJ (pv 1) jd (λ _ _=>rfl))) jb))))),?_⟩
  have w2:=hg.two;have w8:=hg.km;obtain⟨r,xs,rfl,hr3,is3⟩:=iw.jy;obtain⟨v0,v1,rfl,j0,j1⟩:=is3.two;have hv0:=j0.int_inv;subst hv0;have mu:Mut (H p):=by rw[hp];trivial
  refine⟨_,rfl,_,rfl,r,_,_,.int ww.1,rfl,rfl,hr3,rfl,p,n,ww.1,rfl,hp,by lia,by lia,?_⟩;obtain⟨a,ha,am⟩:=IW n (show 0<ww.1 by lia);rw[ha];have t1:jY H (upd H p (.lst [.int (n / (ww.1:Int))])):=jY.upd mu;have b1:But p H (upd H p (.lst [.int (n / (ww.1:Int))])):=(But.refl p H).zG;have hp1:upd H p (.lst [.int (n / (ww.1:Int))]) p=some (.lst [.int (n / (ww.1:Int))]):=iU;generalize n / (ww.1:Int)=n1 at *;generalize upd H p (.lst [.int n1])=H1 at *;have mu1:Mut (H1 p):=by rw[hp1];trivial
  refine⟨_,rfl,_,rfl,_,_,rfl,rfl,_,rfl,_,rfl,r,_,_,.int ww.1,rfl,rfl,t1.t_ hr3,rfl,_,_,rfl,rfl,p,n1,(ww.1:Int)-1,rfl,hp1,by lia,by lia,?_⟩;obtain⟨d,hd,dm⟩:=IW n1 (show 0<ww.1-1 by lia);have ec:(((ww.1-1:Nat):Int))=(ww.1:Int)-1:=by lia
  rw[ec]at hd;rw[hd];have t2:jY H1 (upd H1 p (.lst [.int (n1 / ((ww.1:Int)-1))])):=jY.upd mu1;have b2:But p H (upd H1 p (.lst [.int (n1 / ((ww.1:Int)-1))])):=b1.zG;have hp2:upd H1 p (.lst [.int (n1 / ((ww.1:Int)-1))]) p=some (.lst [.int (n1 / ((ww.1:Int)-1))]):=iU;generalize n1 / ((ww.1:Int)-1)=n2 at *;generalize upd H1 p (.lst [.int n2])=H2 at *;refine⟨_,_,rfl,rfl,_,rfl,r,_,_,.int ww.1,rfl,rfl,(t1.trans t2).t_ hr3,rfl,_,_,rfl,rfl,by lia,by show 2<=sizeLine;decide,λ t ht=>?_⟩;obtain⟨c,hc,cm,ne⟩:=NV am (show d+1<ww.1 by lia);have tp:t≠p:=λ z=>by subst z;rw[hp2]at ht;cases ht
  show Q (V.ref t) (upd H2 t (.tup [iV a,.int (((a:Int)+1+(d:Int)) % (ww.1:Int))]));rw[hc];exact q t a c n2 _ am cm ne (by rw[ja (aX tp)];exact hp2) (b2.new (b2.none ht tp)) iU
end
end K44
namespace L2
open PySem PySem.Spec PyProof.Rows Zp Qs
def oiD:Dt->iA (iA Int)
 | .non=>some none
 | .int i=>some (some i)
 | _=>none
def oh:iA Int->Dt
 | none=>.non
 | some i=>.int i
theorem HD {d:Dt}{o:iA Int}(h:oiD d=some o):d=oh o:=by
 cases d with
 | non=>cases h;rfl
 | int i=>cases h;rfl
 | _=>cases h
def IX (x y:Dt):iA Dt:=(oiD x).bind λ o=>match y with
 | .non=>some (.bl o.isNone)
 | _=>none
def NW (x y:Dt):iA Dt:=(oiD x).bind λ o=>match y with
 | .int j=>some (.bl (decide (o=some j)))
 | _=>none
section
variable {X:Cx}
theorem Tx:OpR X (compareOp .Is) (rD X.K IX):=opD Pr λ x y H Q dx dy d i1 i2 e q=>by
 obtain⟨o,e1,e2⟩:=iP e;obtain rfl:=HD e1;cases dy with
 | non =>
  cases e2;have:=i2.xn;subst this;refine⟨rfl,?_⟩;cases o with
  | none=>rw[Is.xn i1];exact q _ H (iZ.refl H) (.bl _)
  | some i=>rw[Is.int_inv i1];exact q _ H (iZ.refl H) (.bl _)
 | _=>cases e2
theorem TB:OpR X (compareOp .Eq) (rD X.K NW):=opD Oc λ x y H Q dx dy d i1 i2 e q=>by
 obtain⟨o,e1,e2⟩:=iP e;obtain rfl:=HD e1;cases dy with
 | int j =>
  cases e2;have:=i2.int_inv;subst this;cases o with
  | none =>
   rw[Is.xn i1];refine⟨rfl,?_⟩;have e:decide (V.non=V.int j)=decide ((none:iA Int)=some j):=by rw[bH];simp
   rw[e];exact q _ H (iZ.refl H) (.bl _)
  | some i =>
   rw[Is.int_inv i1];refine⟨rfl,?_⟩;have e:decide (V.int i=V.int j)=decide (some i=some j):=by rw[bH];simp
   rw[e];exact q _ H (iZ.refl H) (.bl _)
 | _=>cases e2
end
def Cp (w:Web)(f L P i:Nat):Prop:=ds w.2 f i<=L\/(ds w.2 f i=L+1/\∃ u,u<P/\ds w.2 f u=L/\i∈nb w.2 u)
open Classical in
def jW (w:Web)(f L P i:Nat):iA Int:=if Cp w f L P i then some (ds w.2 f i:Int) else none
section
variable {w:Web}(g:Good w){f:Nat}
open Classical in
theorem mZ {L P i:Nat}(h:Cp w f L P i):jW w f L P i=some (ds w.2 f i:Int):=by unfold jW;rw[af h]
open Classical in
theorem rG {L P i:Nat}(h:¬ Cp w f L P i):jW w f L P i=none:=by unfold jW;rw[ah h]
open Classical in
theorem tI {L P L' P' i:Nat}(h:Cp w f L P i↔Cp w f L' P' i):jW w f L P i=jW w f L' P' i:=by
 by_cases c:Cp w f L P i
 ·rw[mZ c,mZ (h.mp c)]
 ·rw[rG c,rG λ z=>c (h.mpr z)]
open Classical in
theorem HE {L P p:Nat}:jW w f L P p=some (L:Int)↔ds w.2 f p=L:=by
 by_cases c:Cp w f L P p
 ·rw[mZ c]
  constructor
  ·intro h;have:=aF h;lia
  ·intro h;rw[h]
 ·rw[rG c]
  constructor
  ·intro h;cases h
  ·intro h;exact absurd (.inl (by lia)) c
theorem LS {L P i:Nat}(h:ds w.2 f P≠L):jW w f L (P+1) i=jW w f L P i:=tI ⟨λ z=>by
  rcases z with z | ⟨z,u,hu,hd,hi⟩
  ·exact .inl z
  ·refine .inr ⟨z,u,?_,hd,hi⟩
   have:u≠P:=λ e=>by subst e;exact h hd
   lia,λ z=>by
  rcases z with z | ⟨z,u,hu,hd,hi⟩
  ·exact .inl z
  ·exact .inr ⟨z,u,by lia,hd,hi⟩⟩
include g
open Classical in
theorem Good.LU (hf:f<w.1){L P i:Nat}(h:ds w.2 f P=L):jW w f L (P+1) i=if i∈nb w.2 P then (if jW w f L P i=none then some ((L:Int)+1) else jW w f L P i) else jW w f L P i:=by
 by_cases c:i∈nb w.2 P
 ·rw[af c]
  have le:=g.DR hf c;by_cases q:Cp w f L P i
  ·have q':Cp w f L (P+1) i:=by
    rcases q with z | ⟨z,u,hu,hd,hi⟩
    ·exact .inl z
    ·exact .inr ⟨z,u,by lia,hd,hi⟩
   rw[mZ q,mZ q',ah (by simp)]
  ·have gt:ds w.2 f i=L+1:=by
    have:¬ ds w.2 f i<=L:=λ z=>q (.inl z);lia
   rw[rG q,af rfl,mZ (.inr ⟨gt,P,by lia,h,c⟩),gt];rfl
 ·rw[ah c]
  refine tI ⟨λ z=>?_,λ z=>?_⟩
  ·rcases z with z | ⟨z,u,hu,hd,hi⟩
   ·exact .inl z
   ·refine .inr ⟨z,u,?_,hd,hi⟩
    have:u≠P:=λ e=>by subst e;exact c hi
    lia
  ·rcases z with z | ⟨z,u,hu,hd,hi⟩
   ·exact .inl z
   ·exact .inr ⟨z,u,by lia,hd,hi⟩
theorem Good.NX (hf:f<w.1){L i:Nat}(hi:i<w.1):jW w f L w.1 i=jW w f (L+1) 0 i:=by
 refine tI ⟨λ z=>?_,λ z=>?_⟩
 ·rcases z with z | ⟨z,_⟩
  ·exact .inl (by lia)
  ·exact .inl (by lia)
 ·rcases z with z | ⟨_,u,hu,_⟩
  ·by_cases c:ds w.2 f i<=L
   ·exact .inl c
   ·have e:ds w.2 f i=L+1:=by lia
    have ne:i≠f:=λ q=>by subst q;rw[jQ]at e;lia
    obtain⟨u,hu,hd⟩:=g.mr hf hi ne;exact .inr ⟨e,u,(g.jB hu).2.1,by lia,hu⟩
  ·lia
theorem Good.IY (hf:f<w.1){i:Nat}(hi:i<w.1):jW w f 0 0 i=if i=f then some 0 else none:=by
 by_cases c:i=f
 ·subst c;rw[af rfl,mZ (.inl (by rw[jQ];exact ak _)),jQ];rfl
 ·rw[ah c]
  refine rG λ z=>?_;rcases z with z | ⟨_,u,hu,_⟩
  ·exact c (g.oB hf hi (by lia))
  ·lia
theorem Good.NY (hf:f<w.1){i:Nat}(hi:i<w.1)(hd:ds w.2 f i<=w.1):jW w f w.1 0 i=some (ds w.2 f i:Int):=mZ (.inl hd)
end
theorem Rc {x:Rat}{e:Nat}(h:0<x)(b:bt x e):bt x⁻¹ e:=by
 have ei:=He h;unfold iO at ei;injection ei with ei;injection ei with h1 h2;injection h2 with h2 _;injection h1 with h1;injection h2 with h2;have hn:0<=x.num:=Rat.num_nonneg.mpr (by grind);constructor
 ·rw[h1,Int.natAbs_natCast];exact b.2
 ·have:=b.1;lia
section
variable {w wt:Web}(g:Good w)
include g
omit g in
def nrL (w:Web)(i:Nat):List Nat:=(List.range w.1).filter λ o=>decide (j_ i o∈w.2)
theorem Good.qj {i o:Nat}:o∈nrL w i↔o∈nb w.2 i:=by unfold nrL;rw[aY,aw,decide_eq_true_iff,<-g.sU];exact⟨λ h=>h.2,λ h=>⟨(g.jB h).1,h⟩⟩
theorem Good.Rf (i:Nat)(f:Nat->Rat):((nrL w i).map f).sum=((nb w.2 i).map f).sum:=by
 rw[<-BD (n:=w.1) f (nrL w i) (bj.filter _) (λ x hx=>aw.mp (aY.mp hx).1),<-BD (n:=w.1) f _ (g.yJ i) λ x hx=>(g.jB hx).1];refine Dt0.j8 λ j _=>?_;by_cases c:j∈nb w.2 i
 ·rw[af c,af (g.qj.mpr c)]
 ·rw[ah c,ah λ z=>c (g.qj.mp z)]
theorem Good.Cq (i:Nat):(nrL w i).length=dg w i:=by
 have:=g.Rf i λ _=>1;rw[k_,k_]at this;have h:((nrL w i).length:Rat)=(dg w i:Rat):=by unfold dg;grind
 exact Rat.natCast_inj.mp h
end
def oV:iA Int->V
 | none=>.non
 | some i=>.int i
abbrev foV (n:Nat)(F:Nat->iA Int):List V:=(List.range n).map λ j=>oV (F j)
theorem NZ (n:Nat)(F:Nat->iA Int)(j:Nat)(x:iA Int):(foV n F).set j (oV x)=foV n (λ i=>if i=j then x else F i):=by
 apply fM;intro i;rw[List.getElem?_set];simp only[foV,ax,ag,bJ];by_cases c:j=i
 ·subst c
  by_cases l:j<n
  ·rw[af rfl,af l,a_ l];simp
  ·rw[af rfl,ah l,bq (by simp;lia)];rfl
 ·rw[ah c]
  by_cases l:i<n
  ·rw[a_ l];simp[aX c]
  ·rw[bq (by simp;lia)];rfl
def fT:DE->iA Bool:=gB (iY NW (iY dIx (iN 2) (iN 4)) (iN 3))
def fN:DE->iA Dt:=iT 2 ma (iL (iN 0) (iL (iN 4) iQ))
def fV:DE->iA Dt:=gIf (gB (iY IX (iY dIx (iN 2) (iN 5)) (gC .non))) (iY (dI (·+·)) (iN 3) (gC (.int 1))) (iY dIx (iN 2) (iN 5))
def fB (K:iF):TS:=kP (tD K fV) (A4 (jj 2) (jj 5) tQ)
def fI (K:iF):TS:=wX (Ga K (tD K fN)) (jt 5) (fB K)
def fP (K:iF):TS:=HR (tDT K fT) (fI K) Ai
structure FH (K:iF)(w:Web)(v0:V)(H0:Hp)(l:Addr)(F:Nat->iA Int)(H:Hp):Prop where
 same:iZ H0 H
 nl:H0 l=none
 hl:H l=some (.lst (foV w.1 F))
 i0:Is K H0 v0 (i8 w)
abbrev sgF (v0:V)(f:Nat)(l:Addr)(lap pl ot:iA V):L2.St:=[some v0,some (cV f),some (.ref l),lap,pl,ot]
section
variable {K:iF}{w:Web}{v0:V}{H0 H:Hp}{l:Addr}{F:Nat->iA Int}{f:Nat}{D:Ends}
theorem FH.ext {H':Hp}(x:FH K w v0 H0 l F H)(s:iZ H H'):FH K w v0 H0 l F H':=⟨x.same.trans s,x.nl,s _ _ x.hl,x.i0⟩
theorem FH.put (x:FH K w v0 H0 l F H)(j:Nat)(z:iA Int):FH K w v0 H0 l (λ i=>if i=j then z else F i) (upd H l (.lst ((foV w.1 F).set j (oV z)))) :=
 ⟨λ c u h=>by rw[ja (jn h x.nl)];exact x.same c u h,x.nl,by rw[iU,NZ],x.i0⟩
theorem TC {K:iF}{H:Hp}(o:iA Int):Is K H (oV o) (oh o):=by
 cases o with
 | none=>exact .non
 | some i=>exact .int i
theorem TF {K:iF}{H:Hp}{v:V}{o:iA Int}(h:Is K H v (oh o)):v=oV o:=by
 cases o with
 | none=>exact Is.xn h
 | some i=>exact Is.int_inv h
theorem FH.isL (x:FH K w v0 H0 l F H):Is K H (.ref l) (.lst ((List.range w.1).map λ j=>oh (F j))):=by
 refine .lst x.hl ?_;show Iss K H ((List.range w.1).map λ j=>oV (F j)) _;generalize List.range w.1=r;induction r with
 | nil=>exact .nil
 | cons a t ih=>exact .cons (TC _) ih
theorem FH.sat (x:FH K w v0 H0 l F H)(L p:Nat)(ot:iA V):Sat K H (sgF v0 f l (some (cV L)) (some (cV p)) ot) [some (i8 w),some (iM f),some (.lst ((List.range w.1).map λ j=>oh (F j))),some (iM L),some (iM p),none] :=
 stS (x.i0.ext x.same) (stS (.int _) (stS x.isL (stS (.int _) (stS (.int _) (stN stE)))))
theorem FH.VD (x:FH K w v0 H0 l F H)(L p o:Nat):Sat K H (sgF v0 f l (some (cV L)) (some (cV p)) (some (cV o))) [some (i8 w),some (iM f),some (.lst ((List.range w.1).map λ j=>oh (F j))),some (iM L),some (iM p),some (iM o)] :=
 stS (x.i0.ext x.same) (stS (.int _) (stS x.isL (stS (.int _) (stS (.int _) (stS (.int _) stE)))))
theorem LV (o:iA Int):oiD (oh o)=some o:=by cases o<;>rfl
theorem O6 {n i:Nat}(h:i<n):dIx (.lst ((List.range n).map λ j=>oh (F j))) (iM i)=some (oh (F i)):=by show atI ((List.range n).map λ j=>oh (F j)) (i:Int)=_;refine lx ?_;rw[ax,a_ h];rfl
theorem TH {L p:Nat}(hp:p<w.1)(x0 x1 x5:iA Dt):fT [x0,x1,some (.lst ((List.range w.1).map λ j=>oh (F j))),some (iM L),some (iM p),x5]=some (decide (F p=some (L:Int))):=by
 have i1:=O6 (F:=F) hp;have q:NW (oh (F p)) (iM L)=some (.bl (decide (F p=some (L:Int)))):=by unfold NW;rw[LV];rfl
 generalize (List.range w.1).map (λ j=>oh (F j))=ll at *;generalize oh (F p)=e at *;generalize iM p=np at *;generalize iM L=nL at *;simp[fT,i1,q]
theorem TJ {L o:Nat}(ho:o<w.1)(x0 x1 x4:iA Dt):fV [x0,x1,some (.lst ((List.range w.1).map λ j=>oh (F j))),some (iM L),x4,some (iM o)]=some (oh (if F o=none then some ((L:Int)+1) else F o)):=by
 have i1:=O6 (F:=F) ho;have q:IX (oh (F o)) .non=some (.bl (F o).isNone):=by unfold IX;rw[LV];rfl
 generalize (List.range w.1).map (λ j=>oh (F j))=ll at *;cases h:F o with
 | none =>rw[h]at i1 q;have q:IX (oh none) .non=some (.bl true):=q;generalize oh none=e at *;simp only[iM]at *;simp[fV,i1,q,iM,oh]
 | some v =>rw[h]at i1 q;have q:IX (oh (some v)) .non=some (.bl false):=q;rw[ah (by simp)];generalize oh (some v)=e at *;generalize iM o=no at *;simp[fV,i1,q]
theorem Rg {L p o:Nat}(x:FH K w v0 H0 l F H)(ho:o<w.1)(h:∀ H',FH K w v0 H0 l (λ i=>if i=o then (if F o=none then some ((L:Int)+1) else F o) else F i) H'->(∀ c u,H c=some u->c≠l->H' c=some u)->D.nx (sgF v0 f l (some (cV L)) (some (cV p)) (some (cV o))) H'):fB K D (sgF v0 f l (some (cV L)) (some (cV p)) (some (cV o))) H:=by refine⟨_,_,x.VD L p o,TJ ho ..,λ v H1 s1 i1=>?_⟩;rw[TF i1];have x1:=x.ext s1;exact⟨_,rfl,_,rfl,l,_,_,o,rfl,rfl,x1.hl,by rw[ag,bJ];exact oD ho,h _ (x1.put o _) λ c u e n=>by rw[ja n];exact s1 c u e⟩
theorem TK (g:Good w){p:Nat}(x1 x2 x3 x5:iA Dt):fN [some (i8 w),x1,x2,x3,some (iM p),x5]=some (.lst ((nrL w p).map iM)):=by
 have nr:ma [i8 w,iM p]=some (.lst ((nrL w p).map iM)):=by show(dW (i8 w)).bind (λ w=>(ju (iM p)).map λ p=>Dt.lst (((List.range w.1).filter λ o=>decide (j_ p o∈w.2)).map iM))=_;rw[kf g,jk];rfl
 generalize (nrL w p).map iM=ps at *;generalize i8 w=ww at *;generalize iM p=np at *;simp[fN,nr]
theorem Good.Rh (g:Good w){L p:Nat}(hf:f<w.1)(hp:p<w.1)(hd:ds w.2 f p=L){ot:iA V}(x:FH K w v0 H0 l (jW w f L p) H)
  (h:∀ ot H',FH K w v0 H0 l (jW w f L (p+1)) H'->D.nx (sgF v0 f l (some (cV L)) (some (cV p)) ot) H'):fI K D (sgF v0 f l (some (cV L)) (some (cV p)) ot) H:=by
 refine⟨_,_,x.sat L p ot,TK g ..,λ v H1 s1 i1=>?_⟩;have x1:=x.ext s1;obtain⟨a,xs,rfl,ha,is⟩:=i1.lst_inv;have exs:xs=(nrL w p).map cV:=by
  have:Iss K H1 xs (((nrL w p).map λ(k:Nat)=>(k:Int)).map .int):=by rw[aH];exact is
  rw[this.ints,aH];rfl
 subst exs;have d7:=g.qU p;have al:a≠l:=λ z=>by
  subst z;rw[x1.hl]at ha;have:=cK (λ o=>match o with | some (HO.lst ys)=>ys.length | _=>0) ha;simp at this;rw[g.Cq p]at this;have hlt:dg w p<w.1:=by
   have h1:(p::nb w.2 p).Nodup:=bx.mpr ⟨λ m=>(g.jB m).2.2 rfl,g.yJ p⟩;have:=aU h1 (l₂:=List.range w.1) λ x hx=>by
    rcases aN.mp hx with rfl | hx
    ·exact aw.mpr hp
    ·exact aw.mpr (g.jB hx).1
   simp at this;unfold dg;lia
  lia
 refine⟨a,rfl,⟨_,SqL.of ha⟩,CG (K:=K) (a:=a) (xs:=(nrL w p).map cV) (λ j σ' H'=>∃ ot,σ'=sgF v0 f l (some (cV L)) (some (cV p)) ot/\H' a=some (.lst ((nrL w p).map cV))/\FH K w v0 H0 l (λ i=>if i∈(nrL w p).take j then (if jW w f L p i=none then some ((L:Int)+1) else jW w f L p i) else jW w f L p i) H') ⟨ot,rfl,ha,?_⟩ (λ j σ' H' _ z=>by obtain⟨_,_,q,_⟩:=z;exact SqL.of q) ?_ ?_⟩
 ·have e:(λ i=>if i∈(nrL w p).take 0 then (if jW w f L p i=none then some ((L:Int)+1) else jW w f L p i) else jW w f L p i)=jW w f L p:=by funext i;simp
  rw[e];exact x1
 ·rintro j xv σ' H' hj ⟨ot,rfl,ha',x'⟩
  rw[ax]at hj;cases hnr:(nrL w p)[j]? with
  | none=>rw[hnr]at hj;cases hj
  | some o =>
   rw[hnr]at hj;cases hj;have hom:=a8 hnr;have how:o<w.1:=(g.jB (g.qj.mp hom)).1;have hnew:o∉(nrL w p).take j:=λ m=>by obtain⟨k,hk,ek⟩:=bV m;rw[List.getElem_take]at ek;rw[dZ]at hk;have pw:(nrL w p).Pairwise (·<·):=List.Pairwise.filter _ List.pairwise_lt_range;obtain⟨hj2,ej⟩:=ba.mp hnr;have:=dw.mp pw k j (by lia) hj2 (by lia);lia
   refine Rg x' how λ H2 x2 kp=>⟨_,rfl,kp a _ ha' al,?_⟩;have e:(λ i=>if i∈(nrL w p).take (j+1) then (if jW w f L p i=none then some ((L:Int)+1) else jW w f L p i) else jW w f L p i)=λ i=>if i=o then (if (if o∈(nrL w p).take j then (if jW w f L p o=none then some ((L:Int)+1) else jW w f L p o) else jW w f L p o)=none then some ((L:Int)+1) else (if o∈(nrL w p).take j then (if jW w f L p o=none then some ((L:Int)+1) else jW w f L p o) else jW w f L p o)) else (if i∈(nrL w p).take j then (if jW w f L p i=none then some ((L:Int)+1) else jW w f L p i) else jW w f L p i):=by
    funext i;rw[eT,hnr,ah hnew];by_cases c:i=o
    ·subst c;simp
    ·by_cases c2:i∈(nrL w p).take j
     ·simp[c,c2]
     ·simp[c,c2]
   rw[e];exact x2
 ·rintro σ' H' ⟨ot,rfl,_,x'⟩
  rw[ag,fu]at x';have e:(λ i=>if i∈nrL w p then (if jW w f L p i=none then some ((L:Int)+1) else jW w f L p i) else jW w f L p i)=jW w f L (p+1):=by
   funext i;rw[g.LU hf hd];by_cases c:i∈nb w.2 p
   ·rw[af c,af (g.qj.mpr c)]
   ·rw[ah c,ah λ z=>c (g.qj.mp z)]
  rw[e]at x';exact h _ _ x'
end
def fW (K:iF):TE:=tOp (JB K) (jj 0) (tC (V.int 0))
def fL2 (K:iF):TS:=wX (vX (i_ (fW K) jG)) (jt 4) (fP K)
def fL1 (K:iF):TS:=wX (vX (i_ (fW K) jG)) (jt 3) (fL2 K)
def TL (K:iF):TS:=jO (kP (tOp Mp (xQ (i_ (tC V.non) jG)) (fW K)) (jt 2)) (jO (kP (tC (V.int 0)) (A4 (jj 2) (jj 1) tQ)) (jO (fL1 K) (zP (jj 2))))
section
variable {K:iF}{w:Web}{v0:V}{H0 H:Hp}{l:Addr}{F:Nat->iA Int}{f:Nat}{D:Ends}
theorem Rj {σ:L2.St}{Q:VK}(h0:σ[0]?=some (some v0))(i0:Is K H v0 (i8 w))(q:Q (.int w.1) H):fW K σ H Q:=by obtain⟨r,xs,rfl,hr3,is3⟩:=i0.jy;obtain⟨u0,u1,rfl,j0,j1⟩:=is3.two;have:=j0.int_inv;subst this;exact⟨_,h0,r,_,_,_,rfl,rfl,hr3,rfl,q⟩
theorem FH.congr {G:Nat->iA Int}(x:FH K w v0 H0 l F H)(h:∀ i,i<w.1->F i=G i):FH K w v0 H0 l G H:=⟨x.same,x.nl,by
 rw[x.hl];have:foV w.1 F=foV w.1 G:=aK λ i hi=>by rw[h i (aw.mp hi)]
 rw[this],x.i0⟩
variable (g:Good w)
include g
theorem Good.VE {L p:Nat}(hf:f<w.1)(hp:p<w.1){ot:iA V}(x:FH K w v0 H0 l (jW w f L p) H)
  (h:∀ ot H',FH K w v0 H0 l (jW w f L (p+1)) H'->D.nx (sgF v0 f l (some (cV L)) (some (cV p)) ot) H'):fP K D (sgF v0 f l (some (cV L)) (some (cV p)) ot) H:=by
 refine⟨_,_,x.sat L p ot,TH hp ..,λ H1 s1=>?_⟩;have x1:=x.ext s1;by_cases c:jW w f L p p=some (L:Int)
 ·rw[decide_eq_true c];exact EV (g.Rh hf hp (HE.mp c) x1 h)
 ·rw[decide_eq_false c];refine JI ?_;have ne:ds w.2 f p≠L:=λ z=>c (HE.mpr z);exact h ot H1 (x1.congr λ i _=>(LS ne).symm)
theorem Good.LW {L:Nat}(hf:f<w.1){pl ot:iA V}(x:FH K w v0 H0 l (jW w f L 0) H)
  (h:∀ pl ot H',FH K w v0 H0 l (jW w f L w.1) H'->D.nx (sgF v0 f l (some (cV L)) pl ot) H'):fL2 K D (sgF v0 f l (some (cV L)) pl ot) H:=by
 have h8:=g.km;refine Rj rfl (x.i0.ext x.same) ⟨_,rfl,by lia,by lia,?_⟩;rw[bQ];refine mJ (lo:=0) (n:=w.1) (λ i σ' H'=>∃ pl ot,σ'=sgF v0 f l (some (cV L)) pl ot/\FH K w v0 H0 l (jW w f L i) H') ⟨pl,ot,rfl,x⟩ ?_ ?_
 ·rintro i σ' H' hi ⟨pl,ot,rfl,x'⟩;rw[Int.zero_add];exact g.VE hf hi x' λ ot H2 x2=>⟨_,ot,rfl,x2⟩
 ·rintro σ' H' ⟨pl,ot,rfl,x'⟩;exact h pl ot H' x'
theorem Good.Rk (hf:f<w.1){lap pl ot:iA V}(x:FH K w v0 H0 l (jW w f 0 0) H)
  (h:∀ lap pl ot H',FH K w v0 H0 l (jW w f w.1 0) H'->D.nx (sgF v0 f l lap pl ot) H'):fL1 K D (sgF v0 f l lap pl ot) H:=by
 have h8:=g.km;refine Rj rfl (x.i0.ext x.same) ⟨_,rfl,by lia,by lia,?_⟩;rw[bQ];refine mJ (lo:=0) (n:=w.1) (λ i σ' H'=>∃ lap pl ot,σ'=sgF v0 f l lap pl ot/\FH K w v0 H0 l (jW w f i 0) H') ⟨lap,pl,ot,rfl,x⟩ ?_ ?_
 ·rintro i σ' H' hi ⟨lap,pl,ot,rfl,x'⟩;rw[Int.zero_add];exact g.LW hf x' λ pl ot H2 x2=>⟨_,pl,ot,rfl,x2.congr λ j hj=>g.NX hf hj⟩
 ·rintro σ' H' ⟨lap,pl,ot,rfl,x'⟩;exact h lap pl ot H' x'
theorem Good.TM (hf:f<w.1)(hd:∀ i,i<w.1->ds w.2 f i<=w.1)(i0:Is K H v0 (i8 w)){x2 x3 x4 x5:iA V}
  (q:∀ l H',iZ H H'->H l=none->H' l=some (.lst ((List.range w.1).map λ i=>cV (ds w.2 f i)))->D.rt (.ref l) H'):TL K D [some v0,some (cV f),x2,x3,x4,x5] H:=by
 have h8:=g.km;refine⟨fU rfl,λ m hm=>?_⟩;have s1:iZ H (upd H m (.lst [V.non])):=iZ.upd hm;refine Rj rfl (i0.ext s1) ?_;refine⟨m,(w.1:Int),[V.non],rfl,rfl,iU,by lia,by lia,by rw[sizeLine_eq];simp;lia,λ l hl=>?_⟩;have er:(List.replicate (w.1:Int).toNat [V.non]).flatten=foV w.1 (λ _=>none):=by
  rw[bQ];show _=(List.range w.1).map λ _=>V.non;generalize w.1=n;induction n with
  | zero=>rfl
  | succ n ih=>rw[List.replicate_succ',List.flatten_append,ih,fb,a7];rfl
 rw[er];have s2:iZ (upd H m (.lst [V.non])) (upd (upd H m (.lst [V.non])) l (.lst (foV w.1 (λ _=>none)))):=iZ.upd hl;have hl0:H l=none:=s1.free hl;generalize upd H m (.lst [V.non])=H1 at *;have x:FH K w v0 H1 l (λ _=>none) (upd H1 l (.lst (foV w.1 (λ _=>none)))):=⟨s2,hl,iU,i0.ext s1⟩;generalize upd H1 l (.lst (foV w.1 (λ _=>none)))=H2 at x;refine⟨_,rfl,_,rfl,l,_,_,f,rfl,rfl,x.hl,by rw[ag,bJ];exact oD hf,?_⟩;have x1:=x.put f (some 0);have x2:=x1.congr (G:=jW w f 0 0) λ i hi=>(g.IY hf hi).symm;refine g.Rk hf x2 λ lap pl ot H3 x3=>?_;refine⟨_,rfl,q l H3 (s1.trans x3.same) hl0 ?_⟩;rw[x3.hl];have:foV w.1 (jW w f w.1 0)=(List.range w.1).map λ i=>cV (ds w.2 f i):=aK λ i hi=>by have hi:=aw.mp hi;rw[g.NY hf hi (hd i hi)];rfl
 rw[this]
end
end L2
namespace K44
open PySem PySem.Spec PyProof.Rows L2 Zp
section
variable {P:Program}{w:World}{K:iF}{mg:iq}{base:Heap}
def O7 (K:iF):Sp:=λ vs H Q _=>∃ (v:V) (ww:Web) (b:Nat),vs=[v,iV b]/\Good ww/\b<ww.1/\Is K H v (i8 ww)/\∀ l H',iZ H H'->H l=none->H' l=some (.lst ((List.range ww.1).map λ i=>iV (ds ww.2 b i)))->Q (.ref l) H'
theorem Ex (T:Txt K mg):OkT P w base T.tF 2 (O7 K):=by
 refine T.tF.F.ok wQ (λ vs H Q E h=>?_) (λ cdv A outer s H vs Q E hr h=>?_)
 ·obtain⟨v,ww,b,rfl,_⟩:=h;rfl
 ·obtain⟨v,ww,b,rfl,hg,hc,i0,q⟩:=h
  refine⟨TL K,iW (jC (i:=2) wQ.nd rfl (Or.inl rfl) (jP Ba (me (iR Jm jb)) (kW pJ (pv 0) jd (λ _ _=>rfl))))
   (iW (m6 jd (oO (pv 2) (pv 1) set_list))
   (iW (mI bC rfl (lu rfl T.kq (iR (kW pJ (pv 0) jd (λ _ _=>rfl)) jb)) (pgo 3)
    (jw (mI bC rfl (lu rfl T.kq (iR (kW pJ (pv 0) jd (λ _ _=>rfl)) jb)) (pgo 4)
     (jw (vW (jK TB (jA (dv 2) (dv 4)) (dv 3))
      (jw (mI bC rfl (xk (dC T.mY (qh T) hr (iK (dv 0) (iK (dv 4) iS)))) (pgo 5)
       (jw (m6 (J6 (jK Tx (jA (dv 2) (dv 5)) R9) (kC GG (dv 3) ji) (jA (dv 2) (dv 5))) (oO (pv 2) (pv 5) set_list))))) ou)))))
   (jw (lI (pv 2))))),?_⟩
  exact hg.TM hc (λ i hi=>hg.OO hc i hi) i0 q
end
end K44
namespace L2
open PySem PySem.Spec PyProof.Rows Zp Qs
theorem Cr (x y:Rat)(s r:Nat×Nat->Rat)(p:Nat):∀ (l:iI),dvg (l.map λ t=>(t,x*s t+y*r t)) p=x*dvg (l.map λ t=>(t,s t)) p+y*dvg (l.map λ t=>(t,r t)) p
 | []=>by show(0:Rat)-0=x*(0-0)+y*(0-0);grind
 | t::l=>by
  rw[aq,aq,aq,pz,pz,pz,Cr x y s r p l];by_cases c:p=t.1
  ·simp only[c,cM]
   by_cases d:t.1=t.2
   ·simp only[d,cM];grind
   ·simp only[d,bY];grind
  ·simp only[c,bY]
   by_cases d:p=t.2
   ·simp only[d,cM];grind
   ·simp only[d,bY];grind
theorem zK (p:Nat):∀ (l:iI),dvg (l.map λ t=>(t,(0:Rat))) p=0
 | []=>by show(0:Rat)-0=0;grind
 | t::l=>by
  rw[aq,pz,zK p l];have e1:(if p=t.1 then (0:Rat) else 0)=0:=by split<;>rfl
  have e2:(if p=t.2 then (0:Rat) else 0)=0:=by split<;>rfl
  simp only[e1,e2];grind
theorem HF (t0:Nat×Nat)(x:Rat)(p:Nat):∀ (l:iI),l.Nodup->t0∈l->dvg (l.map λ t=>(t,if t=t0 then x else 0)) p=(if p=t0.1 then x else 0)+-1*(if p=t0.2 then x else 0)
 | t::l,nd,h=>by
  obtain⟨h1,h2⟩:=bx.mp nd;rw[aq,pz];by_cases c:t=t0
  ·subst c
   have e:l.map (λ u=>(u,if u=t then x else 0))=l.map λ u=>(u,(0:Rat)):=aK λ u hu=>by have ne:u≠t:=λ z=>h1 (z▸hu);rw[ah ne]
   rw[e,zK];simp only[cM];grind
  ·have ht:t0∈l:=by
    rcases aN.mp h with z | z
    ·exact absurd z.symm c
    ·exact z
   rw[HF t0 x p l h2 ht];simp only[ah c];have e1:(if p=t.1 then (0:Rat) else 0)=0:=by split<;>rfl
   have e2:(if p=t.2 then (0:Rat) else 0)=0:=by split<;>rfl
   simp only[e1,e2];grind
def flw:List Nat->Nat×Nat->Int
 | a::b::r,t=>flw (b::r) t+(if t=j_ a b then (if a<b then 1 else -1) else 0)
 | _,_=>0
section
variable {w:Web}(g:Good w)
include g
theorem Good.Cs:∀ (ps:List Nat) (a z:Nat),ps.head?=some a->ps.getLast?=some z->(∀ q∈ps.zip ps.tail,q.2∈nb w.2 q.1)->∀ p,dvg (w.2.map λ t=>(t,(flw ps t:Rat))) p=(if p=a then 1 else 0)+-1*(if p=z then 1 else 0)
 | [],a,z,h,_,_,p=>by cases h
 | [c],a,z,h,hz,_,p=>by cases h;cases hz;have e:w.2.map (λ t=>(t,(flw [c] t:Rat)))=w.2.map λ t=>(t,(0:Rat)):=aK λ t _=>rfl;rw[e,zK];grind
 | c::d::r,a,z,h,hz,hn,p=>by
  cases h;have hz':(d::r).getLast?=some z:=by rw[List.getLast?_cons_cons]at hz;exact hz
  have hd:d∈nb w.2 c:=hn (c,d) ar;have ih:=Good.Cs (d::r) d z rfl hz' (λ q hq=>hn q (av _ hq)) p;have e:w.2.map (λ t=>(t,(flw (c::d::r) t:Rat)))=w.2.map λ t=>(t,1*(flw (d::r) t:Rat)+1*(if t=j_ c d then (if c<d then (1:Rat) else -1) else 0)):=aK λ t _=>by
   have:((flw (c::d::r) t:Int):Rat)=(flw (d::r) t:Rat)+(((if t=j_ c d then (if c<d then 1 else -1) else 0:Int)):Rat):=by rw[<-fe];rfl
   rw[this];by_cases k:t=j_ c d
   ·rw[af k,af k]
    by_cases m:c<d
    ·rw[af m,af m];have:((1:Int):Rat)=1:=rfl;rw[this];congr 1;grind
    ·rw[ah m,ah m];have:((-1:Int):Rat)=-1:=rfl;rw[this];congr 1;grind
   ·rw[ah k,ah k];have:((0:Int):Rat)=0:=rfl;rw[this];congr 1;grind
  rw[e,Cr,ih,HF (j_ c d) _ p w.2 g.nd (g.sU.mp hd)];have ncd:d≠c:=(g.jB hd).2.2;unfold j_;by_cases m:c<d
  ·rw[gA (by lia),f6 (by lia)];simp only[af m];grind
  ·rw[f7 (by lia),gD (by lia)]
   simp only[ah m];by_cases p1:p=c
   ·by_cases p2:p=d
    ·lia
    ·simp only[af p1,ah p2];grind
   ·by_cases p2:p=d
    ·simp only[ah p1,af p2];grind
    ·simp only[ah p1,ah p2];grind
end
theorem LX {K:iF}{t1 t2:Bool}{a b:Addr}{xs ys:List V}(hlen:ys.length<xs.length){g:TG}{tb:TS}{D:Ends}{σ:St}{H:Hp}(Pv:Nat->St->Hp->Prop)(h0:Pv 0 σ H)
  (hl:∀ i σ H,i<=ys.length->Pv i σ H->SqB t1 K H a xs/\SqB t2 K H b ys)
  (hs:∀ i x y σ H,xs[i]?=some x->ys[i]?=some y->Pv i σ H->∀ p,H p=none->g (.ref p) σ (upd H p (.tup [x,y])) λ σ2 H2=>tb {D with nx:=Pv (i+1),ct:=Pv (i+1),bk:=D.nx} σ2 H2) (hd:∀ σ H,Pv ys.length σ H->D.nx σ H) :
  ∃ W:Nat->Nat->St->Hp->Prop,(∃ m,W 0 m σ H)/\∀ i m σ H,W i m σ H ->
   ((Itz t1 t2 K a b).stop i H/\D.nx σ H)\/((Itz t1 t2 K a b).go i H/\∃ N:St->Hp->Prop,(∀ σ' H',N σ' H'->∃ m',m'<m/\W (i+1) m' σ' H')/\∀ x H',(Itz t1 t2 K a b).yld i H x H'->g x σ H' λ σ2 H2=>tb {D with nx:=N,ct:=N,bk:=D.nx} σ2 H2):=by
 refine⟨λ i m σ H=>m=ys.length-i/\i<=ys.length/\Pv i σ H,⟨ys.length,by simp,bg _,h0⟩,?_⟩;rintro i m σ H ⟨rfl,hi,p⟩;obtain⟨s1,s2⟩:=hl i σ H hi p;by_cases hlt:i<ys.length
 ·refine .inr ⟨⟨xs,ys,s1,s2,by lia,hlt⟩,Pv (i+1),λ σ' H' p'=>⟨ys.length-(i+1),by lia,rfl,hlt,p'⟩,λ v H' yl=>?_⟩;obtain⟨q,x,y,rfl,hq,rfl,hx,hy⟩:=yl;exact hs i x y σ H (hx xs s1) (hy ys s2) p q hq
 ·have e:i=ys.length:=by lia
  subst e;exact .inl ⟨⟨xs,ys,s1,s2,.inr ⟨by lia,rfl⟩⟩,hd σ H p⟩
theorem zL {β:Type}(F:Nat×Nat->β)(x:β){t0:Nat×Nat}:∀ (l:iI) (j:Nat),l.Nodup->l[j]?=some t0->(l.map F).set j x=l.map λ t=>if t=t0 then x else F t
 | [],j,_,h=>by simp at h
 | t::l,0,nd,h=>by obtain⟨h1,h2⟩:=bx.mp nd;simp at h;subst h;rw[aq,gO,aq,af rfl];congr 1;exact aK λ u hu=>by have ne:u≠t:=λ z=>h1 (z▸hu);rw[ah ne]
 | t::l,j+1,nd,h=>by
  obtain⟨h1,h2⟩:=bx.mp nd;have h:l[j]?=some t0:=by simpa using h
  have ne:t≠t0:=λ z=>h1 (z▸a8 h);rw[aq,gN,zL F x l j h2 h,aq,ah ne]
theorem TQ {l:iI}{t0:Nat×Nat}(h:t0∈l):∃ j:Nat,l[j]?=some t0/\NT (kc l) (jD t0)=some (iM j):=by
 have hs:((l.map jD).all λ e=>sh2 e (jD t0))=true:=by rw[gH,dz];intro x _;rfl
 obtain⟨i,hi,ei⟩:=bV h;have some_:∃ j,((l.map jD).findIdx? λ e=>dEq e (jD t0))=some j:=by
  cases q:(l.map jD).findIdx? λ e=>dEq e (jD t0) with
  | some j=>exact⟨j,rfl⟩
  | none =>rw[List.findIdx?_eq_none_iff]at q;have:=q (jD t0) (aD.mpr ⟨t0,h,rfl⟩);rw[yX]at this;simp at this
 obtain⟨j,hj⟩:=some_;obtain⟨h1,h2,_⟩:=fG.mp hj;rw[List.getElem_map,yX,beq_iff_eq]at h2;rw[ag]at h1;refine⟨j,by rw[aC h1,h2],?_⟩;show(if ((l.map jD).all λ e=>sh2 e (jD t0))=true then ((l.map jD).findIdx? λ e=>dEq e (jD t0)).map (λ(j:Nat)=>Dt.int j) else none)=_;rw[af hs,hj];rfl
def pr1 (q t:Nat×Nat):Int:=if t=j_ q.1 q.2 then (if q.1<q.2 then 1 else -1) else 0
def flS (zs:iI)(t:Nat×Nat):Int:=(zs.map λ q=>pr1 q t).sum
theorem HG:∀ (ps:List Nat) (t:Nat×Nat),flS (ps.zip ps.tail) t=flw ps t
 | [],t=>rfl
 | [a],t=>rfl
 | a::b::r,t=>by have ih:=HG (b::r) t;show pr1 (a,b) t+flS ((b::r).zip (b::r).tail) t=flw (b::r) t+pr1 (a,b) t;rw[ih];lia
theorem LY {zs:iI}{i:Nat}{q:Nat×Nat}(h:zs[i]?=some q)(t:Nat×Nat):flS (zs.take (i+1)) t=flS (zs.take i) t+pr1 q t:=by unfold flS;rw[eT,h,a7,List.sum_append];simp
def aA:DE->iA Dt:=iY NT (iY dIx (iN 0) (gC (.int 1))) (kL (iL (jF Dh (iL (iN 3) (iL (iN 4) iQ))) (iL (jF Di (iL (iN 3) (iL (iN 4) iQ))) iQ)))
def aV:DE->iA Dt:=iY (dI (·+·)) (iY dIx (iN 2) (iN 5)) (gIf (gB (iY (dIB λ i j=>decide (i<j)) (iN 3) (iN 4))) (gC (.int 1)) (gUn oq (gC (.int 1))))
def aB (K:iF):TS:=jO (kP (tD K aA) (jt 5)) (kP (tD K aV) (A4 (jj 2) (jj 5) tQ))
structure GH (K:iF)(w:Web)(v0:V)(H0:Hp)(l:Addr)(F:Nat×Nat->Int)(H:Hp):Prop where
 same:iZ H0 H
 nl:H0 l=none
 hl:H l=some (.lst ((w.2.map F).map V.int))
 i0:Is K H0 v0 (i8 w)
abbrev sgW (v0 v1:V)(l:Addr)(on ot at_:iA V):L2.St:=[some v0,some v1,some (.ref l),on,ot,at_]
section
variable {K:iF}{w:Web}{v0 v1:V}{H0 H:Hp}{l:Addr}{F:Nat×Nat->Int}{D:Ends}
theorem GH.ext {H':Hp}(x:GH K w v0 H0 l F H)(s:iZ H H'):GH K w v0 H0 l F H':=⟨x.same.trans s,x.nl,s _ _ x.hl,x.i0⟩
theorem GH.isL (x:GH K w v0 H0 l F H):Is K H (.ref l) (.lst ((w.2.map F).map .int)):=.lst x.hl (Iss.rO _)
theorem Good.TR (g:Good w){a b:Nat}(hab:b∈nb w.2 a)(x1 x2 x5:iA Dt):∃ j:Nat,w.2[j]?=some (j_ a b)/\aA [some (i8 w),x1,x2,some (iM a),some (iM b),x5]=some (iM j):=by obtain⟨j,h1,h2⟩:=TQ (l:=w.2) (t0:=j_ a b) (g.sU.mp hab);refine⟨j,h1,?_⟩;have ix:dIx (i8 w) (.int 1)=some (kc w.2):=rfl;have mn:=DX a b;have mx:=DY a b;have h2:NT (kc w.2) (.tup [iM (min a b),iM (max a b)])=some (iM j):=h2;generalize kc w.2=tt at *;generalize i8 w=ww at *;generalize iM a=na at *;generalize iM b=nb at *;generalize iM (min a b)=n1 at *;generalize iM (max a b)=n2 at *;generalize iM j=nj at *;simp[aA,ix,mn,mx,h2]
theorem TU {a b j:Nat}(hj:w.2[j]?=some (j_ a b))(x0 x1:iA Dt):aV [x0,x1,some (.lst ((w.2.map F).map .int)),some (iM a),some (iM b),some (iM j)]=some (.int (F (j_ a b)+(if a<b then 1 else -1))):=by
 have hl:j<w.2.length:=(ba.mp hj).1;have i1:=BM (l:=w.2.map F) (k:=j) (by rw[ag];exact hl);have e:(w.2.map F).getD j 0=F (j_ a b):=by rw[au,ax,hj];rfl
 rw[e]at i1;have i1:dIx (.lst ((w.2.map F).map .int)) (iM j)=some (.int (F (j_ a b))):=i1;have c:(decide ((a:Int)<(b:Int)))=decide (a<b):=by rw[bH];simp
 generalize (w.2.map F).map Dt.int=ll at *;generalize F (j_ a b)=v at *;by_cases h:a<b
 ·have hi:(a:Int)<(b:Int):=by lia
  simp only[iM]at *;simp[aV,i1,iM,dIB,h,hi]
 ·have hi:¬ (a:Int)<(b:Int):=by lia
  simp only[iM]at *;simp[aV,i1,iM,dIB,h,hi,gUn,oq]
theorem Good.Rl (g:Good w){a b:Nat}(hab:b∈nb w.2 a){at_:iA V}(x:GH K w v0 H0 l F H)
  (h:∀ at_ H',GH K w v0 H0 l (λ t=>F t+pr1 (a,b) t) H'->(∀ c u,H c=some u->c≠l->H' c=some u)->D.nx (sgW v0 v1 l (some (cV a)) (some (cV b)) at_) H'):aB K D (sgW v0 v1 l (some (cV a)) (some (cV b)) at_) H:=by
 obtain⟨j,hj,ea⟩:=g.TR hab none (some (.lst ((w.2.map F).map .int))) none;have hjl:j<w.2.length:=(ba.mp hj).1;refine⟨_,_,stS (x.i0.ext x.same) (stN (stS x.isL (stS (.int _) (stS (.int _) (stN stE))))),ea,λ v H1 s1 i1=>?_⟩;rw[i1.int_inv];have x1:=x.ext s1;refine⟨_,_,stS (x1.i0.ext x1.same) (stN (stS x1.isL (stS (.int _) (stS (.int _) (stS (.int _) stE))))),TU hj ..,λ v2 H2 s2 i2=>?_⟩;rw[i2.int_inv];have x2:=x1.ext s2;refine⟨_,rfl,_,rfl,l,_,_,j,rfl,rfl,x2.hl,by rw[ag,ag];exact oD hjl,h _ _ ⟨λ c u e=>?_,x2.nl,?_,x2.i0⟩ λ c u e n=>by rw[ja n];exact s2 _ _ (s1 _ _ e)⟩
 ·rw[ja (jn e x2.nl)];exact x2.same c u e
 ·rw[iU,aH,zL (V.int∘F) (V.int (F (j_ a b)+(if a<b then 1 else -1))) w.2 j g.nd hj,aH]
  congr 2;refine aK λ t _=>?_;show(if t=j_ a b then _ else V.int (F t))=V.int (F t+pr1 (a,b) t);unfold pr1;by_cases c:t=j_ a b
  ·rw[af c,af c,c]
  ·rw[ah c,ah c];simp
end
def aZ (K:iF):TI:=λ σ H R=>(i_ (jj 1) (i_ (tSl (RU K) (jj 1) (Ol (tC (V.int 1))) Gf) jG)) σ H λ vs H1=>∃ x y,vs=[.ref x,.ref y]/\(∃ xs,SqB false K H1 x xs)/\(∃ ys,SqB false K H1 y ys)/\R (Itz false false K x y) H1
def aL (K:iF):TS:=wX (aZ K) (wW K 2 (lG (jt 3) (lG (jt 4) wV))) (aB K)
def aG:DE->iA Dt:=jF om (iL (iY dIx (iN 0) (gC (.int 1))) iQ)
def TV (K:iF):TS:=jO (kP (tOp Mp (xQ (i_ (tC (V.int 0)) jG)) (tD K aG)) (jt 2)) (jO (aL K) (zP (jj 2)))
theorem LZ (ps:List Nat)(h:ps≠[]):zS (ps.map cV) (some 1) none=ps.tail.map cV:=by
 cases ps with
 | nil=>exact absurd rfl h
 | cons a r =>
  unfold zS;have e1:HT.sIx ((a::r).map cV).length 0 (some (1:Int))=1:=by have:=HT.A8 ((a::r).map cV).length 0 1;rw[show((1:Nat):Int)=1 from rfl]at this;rw[this];simp
  rw[e1,HT.CL];simp;exact eZ (by simp)
section
variable {K:iF}{w:Web}{v0:V}{H0 H:Hp}{l pa:Addr}{D:Ends}
theorem Good.Rm (g:Good w){ps:List Nat}(hne:ps≠[])(hn:∀ q∈ps.zip ps.tail,q.2∈nb w.2 q.1){on ot at_:iA V}(x:GH K w v0 H0 l (λ _=>0) H)(hpa:H0 pa=some (.lst (ps.map cV)))
  (h:∀ on ot at_ H',GH K w v0 H0 l (flw ps) H'->D.nx (sgW v0 (.ref pa) l on ot at_) H'):aL K D (sgW v0 (.ref pa) l on ot at_) H:=by
 have hpaH:=x.same _ _ hpa;refine⟨_,rfl,_,rfl,1,rfl,pa,_,rfl,SqL.of hpaH,λ b hb=>?_⟩;rw[LZ ps hne];have bl:b≠l:=λ z=>by subst z;rw[x.hl]at hb;cases hb
 have bp:b≠pa:=λ z=>by subst z;rw[hpaH]at hb;cases hb
 have lp:pa≠l:=λ z=>by subst z;rw[x.nl]at hpa;cases hpa
 have s1:iZ H (upd H b (.lst (ps.tail.map cV))):=iZ.upd hb;have x1:=x.ext s1;have hp1:=s1 _ _ hpaH;have hb1:upd H b (.lst (ps.tail.map cV)) b=some (.lst (ps.tail.map cV)):=iU;generalize upd H b (.lst (ps.tail.map cV))=H1 at x1 hp1 hb1;have hlen:(ps.tail.map cV).length<(ps.map cV).length:=by
  cases ps with
  | nil=>exact absurd rfl hne
  | cons a r=>simp
 refine⟨pa,b,rfl,⟨_,SqL.of hp1⟩,⟨_,SqL.of hb1⟩,LX (t1:=false) (t2:=false) hlen (λ i σ' H'=>∃ on ot at_,σ'=sgW v0 (.ref pa) l on ot at_/\H' pa=some (.lst (ps.map cV))/\H' b=some (.lst (ps.tail.map cV))/\GH K w v0 H0 l (flS ((ps.zip ps.tail).take i)) H')
  ⟨on,ot,at_,rfl,hp1,hb1,x1⟩ (λ i σ' H' _ z=>by obtain⟨_,_,_,_,q1,q2,_⟩:=z;exact⟨SqL.of q1,SqL.of q2⟩) ?_ ?_⟩
 ·rintro i xv yv σ' H' hx hy ⟨on,ot,at_,rfl,q1,q2,x'⟩ p hp
  rw[ax]at hx hy;cases hxa:ps[i]? with
  | none=>rw[hxa]at hx;cases hx
  | some a =>
   cases hyb:ps.tail[i]? with
   | none=>rw[hyb]at hy;cases hy
   | some c =>
    rw[hxa]at hx;rw[hyb]at hy;cases hx;cases hy;have hz:(ps.zip ps.tail)[i]?=some (a,c):=by rw[gQ];exact⟨hxa,hyb⟩
    have s2:iZ H' (upd H' p (.tup [cV a,cV c])):=iZ.upd hp;refine⟨p,_,rfl,SqT.of iU,rfl,_,_,rfl,_,_,rfl,rfl,?_⟩;refine g.Rl (hn _ (a8 hz)) (x'.ext s2) λ at_ H2 x2 kp=>⟨_,_,_,rfl,kp _ _ (s2 _ _ q1) lp,kp _ _ (s2 _ _ q2) bl,?_⟩;have e:flS ((ps.zip ps.tail).take (i+1))=λ t=>flS ((ps.zip ps.tail).take i) t+pr1 (a,c) t:=by funext t;exact LY hz t
    rw[e];exact x2
 ·rintro σ' H' ⟨on,ot,at_,rfl,_,_,x'⟩
  have e:flS ((ps.zip ps.tail).take (ps.tail.map cV).length)=flw ps:=by funext t;rw[<-HG,ag,eZ (by rw[fA];exact Nat.min_le_right _ _)]
  rw[e]at x';exact h _ _ _ _ x'
end
theorem Good.TX {K:iF}{w:Web}{v0:V}{H:Hp}{pa:Addr}{D:Ends}(g:Good w){ps:List Nat}(hne:ps≠[])(hn:∀ q∈ps.zip ps.tail,q.2∈nb w.2 q.1)(i0:Is K H v0 (i8 w))(hpa:H pa=some (.lst (ps.map cV))){x2 x3 x4 x5:iA V}
  (q:∀ l H',iZ H H'->H l=none->H' l=some (.lst ((w.2.map (flw ps)).map V.int))->D.rt (.ref l) H'):TV K D [some v0,some (.ref pa),x2,x3,x4,x5] H:=by
 have l30:=g.sD;refine⟨fU rfl,λ m hm=>?_⟩;have s1:iZ H (upd H m (.lst [V.int 0])):=iZ.upd hm;have hm1:upd H m (.lst [V.int 0]) m=some (.lst [V.int 0]):=iU;generalize upd H m (.lst [V.int 0])=H1 at s1 hm1;have eg:aG [some (i8 w),none,none,none,none,none]=some (iM w.2.length):=by
  have ix:dIx (i8 w) (.int 1)=some (kc w.2):=rfl;have ln:om [kc w.2]=some (iM w.2.length):=by show some (Dt.int ((w.2.map jD).length:Int))=_;rw[ag]
  generalize kc w.2=tt at *;generalize i8 w=ww at *;simp[aG,ix,ln]
 refine⟨_,_,stS (i0.ext s1) (stN (stN (stN (stN (stN stE))))),eg,λ v H2 s2 i2=>?_⟩;rw[i2.int_inv];refine⟨m,(w.2.length:Int),[V.int 0],rfl,rfl,s2 _ _ hm1,by lia,by lia,by rw[sizeLine_eq];simp;lia,λ l hl=>?_⟩;have er:(List.replicate (w.2.length:Int).toNat [V.int 0]).flatten=(w.2.map λ _=>(0:Int)).map V.int:=by
  rw[bQ];generalize w.2=r;induction r with
  | nil=>rfl
  | cons a t ih=>rw[aQ,de,eG,ih];rfl
 rw[er];have s12:=s1.trans s2;have hl0:H l=none:=s12.free hl;have s3:iZ H2 (upd H2 l (.lst ((w.2.map λ _=>(0:Int)).map V.int))):=iZ.upd hl;have x:GH K w v0 H2 l (λ _=>0) (upd H2 l (.lst ((w.2.map λ _=>(0:Int)).map V.int))):=⟨s3,hl,iU,i0.ext s12⟩;exact g.Rm hne hn x (s12 _ _ hpa) λ on ot at_ H' x'=>⟨_,rfl,q l H' (s12.trans x'.same) hl0 x'.hl⟩
end L2
namespace K44
open PySem PySem.Spec PyProof.Rows L2 Zp
section
variable {P:Program}{w:World}{K:iF}{mg:iq}{base:Heap}
def L0 (K:iF):Sp:=λ vs H Q _=>∃ (v:V) (ww:Web) (pa:Addr) (ps:List Nat),vs=[v,.ref pa]/\Good ww/\Is K H v (i8 ww)/\H pa=some (.lst (ps.map iV))/\ps≠[]/\(∀ q∈ps.zip ps.tail,q.2∈nb ww.2 q.1)/\∀ l H',iZ H H'->H l=none->H' l=some (.lst ((ww.2.map (flw ps)).map V.int))->Q (.ref l) H'
theorem u7 (T:Txt K mg):OkT P w base T.oH 1 (L0 K):=by
 refine T.oH.F.ok pZ (λ vs H Q E h=>?_) (λ cdv A outer s H vs Q E hr h=>?_)
 ·obtain⟨v,ww,pa,ps,rfl,_⟩:=h;rfl
 ·obtain⟨v,ww,pa,ps,rfl,hg,i0,ha,hne,hn,q⟩:=h
  refine⟨TV K,iW (jC (i:=2) pZ.nd rfl (Or.inl rfl) (jP Ba (me (iR jd jb)) (jx qK T.nD bT (iK (jA (dv 0) ji) iS))))
   (iW (mI bC rfl (Kb false false rfl T.AV (iR (pv 1) (iR (CM Mn (pv 1) (Gh jd) Gg) jb))) (jS rfl (jc (pgo 3) (jc (pgo 4) jH)))
    (iW (jC (i:=5) pZ.nd rfl (Or.inl rfl) (NU (jh hr) (jA (dv 0) ji) (nT (iK (jx (Ku rfl) T.Hy boot_min (iK (dv 3) (iK (dv 4) iS))) (iK (jx (Kv rfl) T.Hz boot_max (iK (dv 3) (iK (dv 4) iS))) iS)))))
    (jw (m6 (kC GG (jA (dv 2) (dv 5)) (J6 (jK Kf (dv 3) (dv 4)) ji (yW ji))) (oO (pv 2) (pv 5) set_list)))))
   (jw (lI (pv 2)))),?_⟩
  exact hg.TX hne hn i0 ha q
end
theorem HH:∀ (pre:List Nat) (u x:Nat),(pre++[u]++[x]).zip (pre++[u]++[x]).tail=(pre++[u]).zip (pre++[u]).tail++[(u,x)]
 | [],u,x=>rfl
 | [c],u,x=>rfl
 | c::d::r,u,x=>by have ih:=HH (d::r) u x;show(c,d)::(d::r++[u]++[x]).zip (d::r++[u]++[x]).tail=(c,d)::((d::r++[u]).zip (d::r++[u]).tail++[(u,x)]);rw[ih]
structure Pth (ww:Web)(a:Nat)(ps:List Nat):Prop where
 hd:ps.head?=some a
 st:∀ q∈ps.zip ps.tail,q.2∈nb ww.2 q.1
theorem Pth.snoc {ww:Web}{a u x:Nat}{pre:List Nat}(h:Pth ww a (pre++[u]))(hx:x∈nb ww.2 u):Pth ww a (pre++[u]++[x]):=⟨by rw[List.head?_append,h.hd];rfl,λ q hq=>by
 rw[HH]at hq;rcases bG.mp hq with z | z
 ·exact h.st q z
 ·rw[bA.mp z];exact hx⟩
def wkN:DE->iA Dt:=iT 2 ma (iL (iN 1) (iL (iY dIx (iN 4) (gUn oq (gC (.int 1)))) iQ))
def wkX:DE->iA Dt:=iY dIx (gLC ["_law_one"] [7,4] (gI lZ wkN) (ggN 0) (gB (iY (dIB λ i j=>decide (i<j)) (iY dIx (iN 1) (iN 0)) (iY dIx (iN 1) (iY dIx (iN 2) (gUn oq (gC (.int 1))))))) (iN 0)) (gC (.int 0))
def wkC:DE->iA Bool:=gB (iY mv (iY dIx (iN 4) (gUn oq (gC (.int 1)))) (iN 3))
def wkB (K:iF):TS:=jO (kP (tD K wkN) (jt 6)) (Aj (tBM K "list" rL (jj 4) (i_ (tOp (vn K) (jj 6) (kD nz [] E0 (i_ (jj 0) (i_ (tCB (NO K) (i_ (jj 6) jG)) jG)))) jG)))
def wkW (K:iF):TS:=jO (A5 (tDT K wkC) (Aj (tBM K "list" rL (jj 4) (tDs K (iL wkX iQ))))) (zP (jj 4))
def wkD (K:iF):TS:=jO (kP (kD (O7 K) [] E0 (i_ (jj 1) (i_ (jj 3) jG))) (jt 7)) (wkW K)
def wkA (K:iF):TS:=jO (kP (xQ (i_ (jj 2) jG)) (jt 4)) (jO (wX (vX (i_ (kD nz [] E0 (i_ (jj 0) (i_ (tC (V.int 6)) jG))) jG)) (jt 5) (wkB K)) (wkD K))
structure WH (K:iF)(ww:Web)(v:V)(H0:Hp)(p l:Addr)(ps:List Nat)(H:Hp):Prop where
 but:But p H0 H
 nl:H0 l=none
 lp:l≠p
 hl:H l=some (.lst (ps.map iV))
 hp:∃ n,H p=some (.lst [.int n])
 iw:Is K H v (i8 ww)
abbrev sgV (p:Addr)(v:V)(a b:Nat)(l:Addr)(tu so fa:iA V):L2.St:=[some (.ref p),some v,some (iV a),some (iV b),some (.ref l),tu,so,fa]
theorem L1 {ww:Web}(g:Good ww)(pre:List Nat)(last:Nat)(x0 x2 x3 x5 x6 x7:iA Dt):wkN [x0,some (i8 ww),x2,x3,some (.lst ((pre++[last]).map iM)),x5,x6,x7]=some (.lst ((nrL ww last).map iM)):=by
 have h:=tP (pre.map iM) (iM last);rw[a7,gP];have nr:ma [i8 ww,iM last]=some (.lst ((nrL ww last).map iM)):=by show(dW (i8 ww)).bind (λ w=>(ju (iM last)).map λ p=>Dt.lst (((List.range w.1).filter λ o=>decide (j_ p o∈w.2)).map iM))=_;rw[kf g,jk];rfl
 generalize (nrL ww last).map iM=ps at *;generalize i8 ww=w at *;simp only[iM]at h nr;simp[wkN,gUn,oq,h,iM,nr]
theorem Rn (b last:Nat)(pre:List Nat)(x0 x1 x2 x5 x6 x7:iA Dt):wkC [x0,x1,x2,some (iM b),some (.lst ((pre++[last]).map iM)),x5,x6,x7]=some (decide (last≠b)):=by have h:=tP (pre.map iM) (iM last);rw[a7,gP];have e:((last:Int)==(b:Int))=(last==b):=kN last b;simp only[iM]at h;simp[wkC,gUn,oq,h,iM,e];rw[bH];simp
theorem Ro {ww:Web}(g:Good ww){b last:Nat}(hb:b<ww.1)(hl:last<ww.1)(ne:last≠b)(pre:List Nat)(x0 x2 x3 x5 x6:iA Dt) :
  ∃ y,y∈nb ww.2 last/\ds ww.2 b y<ds ww.2 b last/\wkX [x0,some (i8 ww),x2,x3,some (.lst ((pre++[last]).map iM)),x5,x6,some (.lst ((List.range ww.1).map λ i=>iM (ds ww.2 b i)))]=some (iM y):=by
 have far:∀ {i},i<ww.1->dIx (.lst ((List.range ww.1).map λ i=>iM (ds ww.2 b i))) (iM i)=some (iM (ds ww.2 b i)):=λ{i} hi=>by show atI ((List.range ww.1).map λ i=>iM (ds ww.2 b i)) (i:Int)=_;refine lx ?_;rw[ax,a_ hi];rfl
 obtain⟨u,hu,du⟩:=g.mr hb hl ne;have wn:=L1 g pre last x0 x2 x3 x5 x6 (some (.lst ((List.range ww.1).map λ i=>iM (ds ww.2 b i))));have h:=tP (pre.map iM) (iM last);rw[a7,gP]at wn ⊢;have lc:=kl (enc:=iM) (gg:=ggN 0) (gt:=gB (iY (dIB λ i j=>decide (i<j)) (iY dIx (iN 1) (iN 0)) (iY dIx (iN 1) (iY dIx (iN 2) (gUn oq (gC (.int 1))))))) (ge:=iN 0) (δc:=[none,some (.lst ((List.range ww.1).map λ i=>iM (ds ww.2 b i))),some (.lst (pre.map iM++[iM last]))])
  (δa:=λ z=>[some (iM z),some (.lst ((List.range ww.1).map λ i=>iM (ds ww.2 b i))),some (.lst (pre.map iM++[iM last]))]) (p:=λ z=>decide (ds ww.2 b z<ds ww.2 b last)) (enc':=iM) (nrL ww last) λ z hz=>⟨rfl,by have f1:=far (g.jB (g.qj.mp hz)).1;have f2:=far hl;generalize Dt.lst ((List.range ww.1).map λ i=>iM (ds ww.2 b i))=ff at *;generalize pre.map iM=pp at *;simp only[iM]at h f1 f2;simp[gUn,oq,h,iM,f1,f2,dIB],λ _=>rfl⟩
 have hn:((nrL ww last).map iM).length<=1000:=by rw[ag,g.Cq];have:=g.qU last;lia
 have hm:u∈(nrL ww last).filter λ z=>decide (ds ww.2 b z<ds ww.2 b last):=aY.mpr ⟨g.qj.mpr (g.sU.mpr (by rw[AK];exact g.sU.mp hu)),by simp;lia⟩;have ha:∀ y∈(nrL ww last).filter (λ z=>decide (ds ww.2 b z<ds ww.2 b last)),y∈nb ww.2 last/\ds ww.2 b y<ds ww.2 b last:=λ y hy=>by obtain⟨h1,h2⟩:=aY.mp hy;exact⟨g.qj.mp h1,of_decide_eq_true h2⟩
 generalize (nrL ww last).filter (λ z=>decide (ds ww.2 b z<ds ww.2 b last))=fl at lc hm ha;cases fl with
 | nil=>cases hm
 | cons y r =>obtain⟨h1,h2⟩:=ha y ar;refine⟨y,h1,h2,?_⟩;rw[aq]at lc;generalize (nrL ww last).map iM=ns at *;generalize Dt.lst ((List.range ww.1).map λ i=>iM (ds ww.2 b i))=ff at *;generalize i8 ww=w at *;generalize pre.map iM++[iM last]=pl at *;generalize r.map iM=rr at *;have i0:dIx (.lst (iM y::rr)) (.int 0)=some (iM y):=lx (xs:=iM y::rr) (j:=0) rfl;generalize iM y::rr=yr at *;simp[wkX,wn,lc,hn,i0]
section
variable {P:Program}{w:World}{K:iF}{mg:iq}{base:Heap}{ww:Web}{v:V}{H0 H:Hp}{p l:Addr}{a b:Nat}{pre ps:List Nat}{last:Nat}{D:Ends}{tu so fa:iA V}
theorem L3 (xs:List Nat){q:Addr}(h:H q=some (.lst (xs.map iV))):Is K H (.ref q) (.lst (xs.map iM)):=.lst h (by have:=Iss.rO (K:=K) (H:=H) (xs.map λ(k:Nat)=>(k:Int));rw[aH,aH]at this;exact this)
theorem WH.ext {H':Hp}(x:WH K ww v H0 p l ps H)(s:iZ H H'):WH K ww v H0 p l ps H':=⟨x.but.trans' (But.of_same s),x.nl,x.lp,s _ _ x.hl,x.hp.imp λ _ h=>s _ _ h,x.iw.ext s⟩
theorem WH.mut (x:WH K ww v H0 p l ps H):Mut (H l):=by rw[x.hl];trivial
theorem WH.put (x:WH K ww v H0 p l ps H)(y:Nat):WH K ww v H0 p l (ps++[y]) (upd H l (.lst (ps.map iV++[iV y]))):=⟨x.but.new x.nl,x.nl,x.lp,by rw[iU,a7];rfl,x.hp.imp λ _ h=>by rw[ja (aX x.lp)];exact h,x.iw.text (jY.upd x.mut) (imW ww)⟩
theorem WH.draw (x:WH K ww v H0 p l ps H)(n:Int):WH K ww v H0 p l ps (upd H p (.lst [.int n])):=⟨x.but.zG,x.nl,x.lp,by rw[ja x.lp];exact x.hl,⟨n,iU⟩,x.iw.text (jY.upd (by obtain⟨m,h⟩:=x.hp;rw[h];trivial)) (imW ww)⟩
theorem WH.sat (x:WH K ww v H0 p l (pre++[last]) H):Sat K H (sgV p v a b l tu so fa) [none,some (i8 ww),some (iM a),some (iM b),some (.lst ((pre++[last]).map iM)),none,none,none] :=
 stN (stS x.iw (stS (.int _) (stS (.int _) (stS (L3 _ x.hl) (stN (stN (stN stE)))))))
theorem N3 (g:Good ww)(hl:last<ww.1)(hs:pre.length<=100)(x:WH K ww v H0 p l (pre++[last]) H)
  (h:∀ so y H',y∈nb ww.2 last->WH K ww v H0 p l (pre++[last]++[y]) H'->D.nx (sgV p v a b l tu so fa) H'):wkB K D (sgV p v a b l tu so fa) H:=by
 refine⟨_,_,x.sat,L1 g ..,λ u H1 s1 i1=>?_⟩;have x1:=x.ext s1;obtain⟨s,xs,rfl,hs1,is⟩:=i1.lst_inv;have exs:xs=(nrL ww last).map iV:=by
  have:Iss K H1 xs (((nrL ww last).map λ(k:Nat)=>(k:Int)).map .int):=by rw[aH];exact is
  rw[this.ints,aH];rfl
 subst exs;obtain⟨n,hp⟩:=x1.hp;have hlen:0<(nrL ww last).length:=by rw[g.Cq];exact g.Na last hl
 have hl7:(nrL ww last).length<=7:=by rw[g.Cq];exact g.qU last
 obtain⟨j,hj,jl⟩:=IW n hlen;have hy:(nrL ww last)[j]∈nb ww.2 last:=g.qj.mp (cJ jl);refine⟨_,rfl,.inl ⟨rfl,_,SqL.of x1.hl⟩,_,rfl,_,rfl,_,rfl,s,_,rfl,.inl (SqL.of hs1),p,n,_,rfl,hp,by rw[ag];lia,by rw[ag];lia,?_⟩;rw[ag,hj];have x2:=x1.draw (n / ((nrL ww last).length:Int));have at2:∃ ys,SqL K (upd H1 p (.lst [.int (n / ((nrL ww last).length:Int))])) s ys/\atI ys (j:Int)=some (iV (nrL ww last)[j]):=by
  by_cases sp:s=p
  ·subst sp
   rw[hs1]at hp;have e:(nrL ww last).map iV=[V.int n]:=by injection (aF hp)
   have l1:(nrL ww last).length=1:=by have:=cK List.length e;simpa using this
   have j0:j=0:=by lia
   subst j0;refine⟨_,SqL.of iU,?_⟩;have e0:V.int n=iV (nrL ww last)[0]:=by have:=cK (λ(l:List V)=>l[0]?) e;simp only[ax,aC jl]at this;exact(aF this).symm
   rw[l1,<-e0];simp[atI,ixN]
  ·exact⟨_,SqL.of (by rw[ja sp];exact hs1),(by refine lx ?_;rw[ax,aC jl];rfl)⟩
 obtain⟨ys,sy,ay⟩:=at2;generalize upd H1 p (.lst [.int (n / ((nrL ww last).length:Int))])=H2 at x2 sy;exact⟨s,ys,_,iV (nrL ww last)[j],rfl,rfl,sy,ay,l,_,_,rfl,rfl,x2.hl,by rw[ag,aT,bF,sizeLine_eq];lia,h _ _ _ hy (x2.put _)⟩
theorem N4 (g:Good ww){f:Addr}(hb:b<ww.1)(hl:last<ww.1)(hs:pre.length<=20)(x:WH K ww v H0 p l (pre++[last]) H)(pt:Pth ww a (pre++[last]))(fl:f≠l)(hf:H f=some (.lst ((List.range ww.1).map λ i=>iV (ds ww.2 b i))))
  (q:∀ H' qs,WH K ww v H0 p l qs H'->Pth ww a qs->qs.getLast?=some b->qs.length<=100->D.rt (.ref l) H'):wkW K D (sgV p v a b l tu so (some (.ref f))) H:=by
 have d8:=g.OO hb last hl;have w8:=g.km;refine⟨λ m σ2 H2=>∃ (pre:List Nat) (last:Nat),σ2=sgV p v a b l tu so (some (.ref f))/\last<ww.1/\WH K ww v H0 p l (pre++[last]) H2/\Pth ww a (pre++[last])/\H2 f=some (.lst ((List.range ww.1).map λ i=>iV (ds ww.2 b i)))/\m=ds ww.2 b last/\pre.length+ds ww.2 b last<=30,⟨_,pre,last,rfl,hl,x,pt,hf,rfl,by lia⟩,?_⟩;clear hl hs x pt hf d8;rintro m σ2 H2 ⟨pre,last,rfl,hl,x,pt,hf,rfl,hm⟩;have isf:Is K H2 (.ref f) (.lst ((List.range ww.1).map λ i=>iM (ds ww.2 b i))):=by have:=L3 (K:=K) (H:=H2) ((List.range ww.1).map (ds ww.2 b)) (q:=f) (by rw[aH];exact hf);rw[aH]at this;exact this
 have S2:Sat K H2 (sgV p v a b l tu so (some (.ref f))) [none,some (i8 ww),some (iM a),some (iM b),some (.lst ((pre++[last]).map iM)),none,none,some (.lst ((List.range ww.1).map λ i=>iM (ds ww.2 b i)))] :=
  stN (stS x.iw (stS (.int _) (stS (.int _) (stS (L3 _ x.hl) (stN (stN (stS isf stE)))))))
 refine⟨_,decide (last≠b),S2,Rn b last pre ..,λ H3 s3=>?_⟩;have x3:=x.ext s3;show(if decide (last≠b)=true then _ else _);by_cases ne:last=b
 ·rw[ah (by simp[ne])];subst ne;exact⟨_,rfl,q H3 _ x3 pt (by simp) (by rw[aT,bF];lia)⟩
 ·rw[af (by simp[ne])]
  obtain⟨y,hy,dy,e⟩:=Ro g hb hl ne pre none (some (iM a)) (some (iM b)) none none;refine⟨λ σ' H'=>σ'=sgV p v a b l tu so (some (.ref f))/\WH K ww v H0 p l (pre++[last]++[y]) H'/\H' f=some (.lst ((List.range ww.1).map λ i=>iV (ds ww.2 b i))),?_,?_⟩
  ·rintro σ' H' ⟨rfl,x4,hf4⟩;exact⟨ds ww.2 b y,dy,pre++[last],y,rfl,(g.jB hy).1,x4,pt.snoc hy,hf4,rfl,by rw[aT,bF];lia⟩
  ·refine⟨_,rfl,.inl ⟨rfl,_,SqL.of x3.hl⟩,_,[iM y],S2.ext s3,?_,λ vs H4 s4 is=>?_⟩
   ·show(wkX _).bind _=_;rw[e];rfl
   ·obtain⟨u,rfl,iv⟩:=is.one;rw[iv.int_inv];have x4:=x3.ext s4;exact⟨l,_,_,rfl,rfl,x4.hl,by rw[ag,aT,bF,sizeLine_eq];lia,rfl,x4.put y,by rw[ja fl];exact s4 _ _ (s3 _ _ hf)⟩
theorem Rp (g:Good ww){n:Int}(ha:a<ww.1)(hb:b<ww.1)(iw:Is K H v (i8 ww))(hp:H p=some (.lst [.int n])){x4 x5 x6 x7:iA V}
  (q:∀ l H' qs,WH K ww v H p l qs H'->Pth ww a qs->qs.getLast?=some b->qs.length<=100->D.rt (.ref l) H'):wkA K D [some (.ref p),some v,some (iV a),some (iV b),x4,x5,x6,x7] H:=by
 refine⟨_,rfl,by show 1<=sizeLine;decide,λ l hl=>?_⟩;have lp:l≠p:=λ z=>by subst z;rw[hp]at hl;cases hl
 have s0:iZ H (upd H l (.lst [iV a])):=iZ.upd hl;have x0:WH K ww v H p l ([]++[a]) (upd H l (.lst [iV a])):=⟨But.of_same s0,hl,lp,iU,⟨n,s0 _ _ hp⟩,iw.ext s0⟩;have hp0:upd H l (.lst [iV a]) p=some (.lst [.int n]):=s0 _ _ hp;refine⟨_,rfl,p,n,6,rfl,hp0,by decide,by decide,?_⟩;obtain⟨k,hk,k6⟩:=IW n (m:=6) (by decide);have e6:(((6:Nat):Int))=6:=rfl;rw[e6]at hk;rw[hk];have x1:=x0.draw (n / 6);generalize upd (upd H l (.lst [iV a])) p (.lst [.int (n / 6)])=H1 at x1;refine⟨_,rfl,by lia,by lia,?_⟩;rw[bQ];refine mJ (lo:=0) (n:=k) (λ i σ' H'=>∃ pre last tu so fa,σ'=sgV p v a b l tu so fa/\pre.length=i/\last<ww.1/\WH K ww v H p l (pre++[last]) H'/\Pth ww a (pre++[last])) ⟨[],a,_,_,_,rfl,rfl,ha,x1,⟨rfl,λ q hq=>by cases hq⟩⟩ ?_ ?_
 ·rintro i σ' H' hi ⟨pre,last,tu,so,fa,rfl,hi2,hl2,x',pt⟩;exact N3 g hl2 (by lia) x' λ so y H2 hy x2=>⟨pre++[last],y,_,so,fa,rfl,by rw[aT,bF,hi2],(g.jB hy).1,x2,pt.snoc hy⟩
 ·rintro σ' H' ⟨pre,last,tu,so,fa,rfl,hi2,hl2,x',pt⟩
  refine⟨_,rfl,_,rfl,v,ww,b,rfl,g,hb,x'.iw,λ f H2 s2 f0 hf=>?_⟩;have fl:f≠l:=λ z=>by subst z;rw[x'.hl]at f0;cases f0
  exact N4 g hb hl2 (by lia) (x'.ext s2) pt fl hf λ H3 qs x3 pt3 hq hq2=>q l H3 qs x3 pt3 hq hq2
def L4 (K:iF):Sp:=λ vs H Q _=>∃ (p:Addr) (n:Int) (v:V) (ww:Web) (a b:Nat),vs=[.ref p,v,iV a,iV b]/\Good ww/\a<ww.1/\b<ww.1/\Is K H v (i8 ww)/\H p=some (.lst [.int n]) /\
 ∀ l H' qs,WH K ww v H p l qs H'->Pth ww a qs->qs.getLast?=some b->qs.length<=100->Q (.ref l) H'
theorem HI (T:Txt K mg):OkT P w base T.oJ 3 (L4 K):=by
 refine T.oJ.F.ok nI (λ vs H Q E h=>?_) (λ cdv A outer s H vs Q E hr h=>?_)
 ·obtain⟨p,n,v,ww,a,b,rfl,_⟩:=h;rfl
 ·obtain⟨p,n,v,ww,a,b,rfl,hg,ha,hb,iw,hp,q⟩:=h
  have hr1:lV 1 _:=hr.mono (by decide);refine⟨wkA K,iW (jC (i:=4) nI.nd rfl (Or.inr rfl) (me (iR (pv 2) jb)))
   (iW (mI bC rfl (lu rfl T.kq (iR (pC T.jv (lU T) hr (iR (pv 0) (iR jd jb))) jb)) (pgo 5)
    (iW (jC (i:=6) nI.nd rfl (Or.inl rfl) (dC T.mY (qh T) hr (iK (dv 1) (iK (jA (dv 4) (yW ji)) iS))))
    (jw (rK (Ao cT dM dN o5 (pv 4) (iR (kW kG (pv 6) (pC T.jv (lU T) hr (iR (pv 0) (iR (lK mf rfl T.nD bT (iR (pv 6) jb)) jb))) (λ _ _=>rfl)) jb))))))
   (iW (jC (i:=7) nI.nd rfl (Or.inr rfl) (pC T.tF (Ex T) hr (iR (pv 1) (iR (pv 3) jb))))
   (iW (tN bC (jK (r9 (jh hr)) (jA (dv 4) (yW ji)) (dv 3)) (jw (rK (Ao cT dM dN o5 (pv 4) (iK (jA (r8 rfl (csc ["_law_one"] ["_law_far_here","_law_found"] [7,4]) (nV (dC T.mY (qh T) hr (iK (dv 1) (iK (jA (dv 4) (yW ji)) iS)))) (λ _ _ _ _=>(pgo 0)) jX kS (λ _ _ _ _=>(sL (jK Kf (jA (dv 1) (dv 0)) (jA (dv 1) (jA (dv 2) (yW ji)))))) (λ _ _ _ _=>(dv 0))) ji) iS)))))
   (jw (lI (pv 4)))))),?_⟩
  exact Rp hg ha hb iw hp q
end
end K44
namespace L2
open PySem PySem.Spec PyProof.Rows Zp Qs
theorem zM:∀ (ps:List Nat) (t:Nat×Nat),(flw ps t).natAbs<=ps.length
 | [],_=>bg _
 | [_],_=>bg _
 | a::b::r,t=>by
  have ih:=zM (b::r) t;show(flw (b::r) t+(if t=j_ a b then (if a<b then 1 else -1) else 0)).natAbs<=(b::r).length+1;split
  ·split<;>lia
  ·lia
theorem L5 {s:Rat}{x y:Int}(hn:s.num.natAbs<=2*10 ^ 27)(hd:s.den<=10 ^ 27)(hx:x.natAbs<=100)(hy:y.natAbs<=100):cb (s*(x:Rat)+(1-s)*(y:Rat)) s.den (10 ^ 30):=by
 obtain⟨n,e,_⟩:=Hh s;have e:s=(s.num:Rat)*((s.den:Rat))⁻¹:=by
  have e:s=Rat.divInt s.num s.den:=by rw[cw,dO]
  have e2:Rat.divInt s.num s.den=(s.num:Rat)*((s.den:Rat))⁻¹:=by rw[fg,gf,cf]
  exact e.trans e2
 have dq:(s.den:Rat)≠0:=by have:(0:Rat)<(s.den:Rat):=eE.mpr s.den_pos;grind
 have cc:=bZ _ dq;refine⟨s.num*x+(s.den-s.num)*y,?_,?_⟩
 ·rw[fe,cR,cR,fc,cf];generalize (s.num:Rat)=a at *;generalize ((s.den:Rat))⁻¹=i at *;generalize (s.den:Rat)=dn at *;rw[e];grind
 ·have h1:(s.num*x).natAbs<=2*10 ^ 27*100:=by rw[fO];exact cE hn hx
  have h2:((s.den-s.num)*y).natAbs<=3*10 ^ 27*100:=by rw[fO];exact cE (by lia) hy
  have:=Int.natAbs_add_le (s.num*x) ((s.den-s.num)*y);lia
theorem zip_map_self {β:Type}(F:Nat×Nat->β):∀ (l:iI),l.zip (l.map F)=l.map λ t=>(t,F t)
 | []=>rfl
 | x::r=>by rw[aq,eV,zip_map_self F r,aq]
def F0 (w:Web)(s:Rat)(ps qs:List Nat):List Rat:=w.2.map λ t=>s*(flw ps t:Rat)+(1-s)*(flw qs t:Rat)
section
variable {w:Web}(g:Good w)
include g
theorem Good.N5 {a b:Nat}{s:Rat}{ps qs:List Nat}(hn:s.num.natAbs<=2*10 ^ 27)(hd:s.den<=10 ^ 27)(lp:ps.length<=100)(lq:qs.length<=100)
  (p1:ps.head?=some a) (p2:ps.getLast?=some b) (p3:∀ q∈ps.zip ps.tail,q.2∈nb w.2 q.1) (q1:qs.head?=some a) (q2:qs.getLast?=some b) (q3:∀ q∈qs.zip qs.tail,q.2∈nb w.2 q.1):mz w a b (F0 w s ps qs):=by
 refine⟨by unfold F0;rw[ag],⟨s.den,10 ^ 30,s.den_pos,?_,by decide,by decide +kernel,λ x hx=>?_⟩,λ p hp nb=>?_⟩
 ·have:s.den*s.den<=10 ^ 27*10 ^ 27:=cE hd hd
  have:(10 ^ 27*10 ^ 27:Nat)<2 ^ 1900:=by decide +kernel
  lia
 ·obtain⟨t,_,rfl⟩:=aD.mp hx;exact L5 hn hd (bf (zM ps t) lp) (bf (zM qs t) lq)
 ·unfold F0;rw[zip_map_self,Cr s (1-s) (λ t=>(flw ps t:Rat)) (λ t=>(flw qs t:Rat)),g.Cs ps a b p1 p2 p3,g.Cs qs a b q1 q2 q3,ah nb];grind
end
theorem L6:∀ (l:List Rat),(∀ x∈l,x.num.natAbs<=2*10 ^ 27/\x.den<=10 ^ 27)->∃ D:Nat,0<D/\D<=(10 ^ 27) ^ l.length/\∀ x∈l,cb x D (2*10 ^ 27*(10 ^ 27) ^ l.length)
 | [],_=>⟨1,by decide,by decide,λ x hx=>by cases hx⟩
 | y::r,h=>by
  obtain⟨D,h0,h1,h2⟩:=L6 r λ x hx=>h x (av _ hx);obtain⟨hn,hd⟩:=h y ar;rw[aQ,Nat.pow_succ];generalize (10 ^ 27) ^ r.length=M at *;refine⟨D*y.den,fk h0 y.den_pos,cE h1 hd,λ x hx=>?_⟩;rcases aN.mp hx with z | z
  ·rw[z];have c:=Hf D h0 (Hh y);rw[Nat.mul_comm y.den D]at c;refine pV c ?_;have a1:y.num.natAbs*D<=2*10 ^ 27*M:=cE hn h1;have a2:M<=M*10 ^ 27:=Nat.le_mul_of_pos_right M (by decide);exact bf a1 (dX _ a2)
  ·have c:=Hf y.den y.den_pos (h2 x z);refine pV c ?_;rw[Nat.mul_assoc];exact dX _ (dX _ hd)
theorem N6 {l:List Rat}(hl:l.length<=8)(h:∀ x∈l,x.num.natAbs<=2*10 ^ 27/\x.den<=10 ^ 27):CbL l:=by
 obtain⟨D,h0,h1,h2⟩:=L6 l h;have m8:((10 ^ 27) ^ l.length:Nat)<=(10 ^ 27) ^ 8:=bN (by decide) hl;refine⟨D,2*10 ^ 27*(10 ^ 27) ^ 8,h0,?_,by decide +kernel,by decide +kernel,λ x hx=>pV (h2 x hx) (dX _ m8)⟩;have:D*D<=(10 ^ 27) ^ 8*(10 ^ 27) ^ 8:=cE (bf h1 m8) (bf h1 m8);have:((10 ^ 27) ^ 8*(10 ^ 27) ^ 8:Nat)<2 ^ 1900:=by decide +kernel
 exact bR (by assumption) this
theorem L7 {x y:Rat}(hx:sm x)(hy:sm y):qM [iO x,iO y]=some (iO (x+y)):=by show(dQ (iO x)).bind (λ a=>(dQ (iO y)).bind λ b=>if sm a/\sm b then some (iO (a+b)) else none)=_;rw[nh,nh,ae,ae,af ⟨hx,hy⟩]
theorem AX {w:Web}(g:Good w){a b:Nat}(ha:a<w.1)(hb:b<w.1)(ne:a≠b):kn [i8 w,iM a,iM b]=some (iO (hiQ w a b)):=by show(dW (i8 w)).bind (λ w=>(ju (iM a)).bind λ a=>(ju (iM b)).bind λ b=>if a<w.1/\b<w.1/\a≠b then some (iO (hiQ w a b)) else none)=_;rw[kf g,jk,jk,ae,ae,ae,af ⟨ha,hb,ne⟩]
theorem TY {w:Web}(g:Good w){a b:Nat}(ha:a<w.1)(hb:b<w.1)(ne:a≠b):vP [i8 w,iM a,iM b]=some (.tup ((evL w a b).map iO)):=by show(dW (i8 w)).bind (λ w=>(ju (iM a)).bind λ a=>(ju (iM b)).bind λ b=>if a<w.1/\b<w.1/\a≠b then some (Dt.tup ((evL w a b).map iO)) else none)=_;rw[kf g,jk,jk,ae,ae,ae,af ⟨ha,hb,ne⟩]
theorem TZ {w:Web}(g:Good w){a b:Nat}(ha:a<w.1)(hb:b<w.1)(ne:a≠b):oF [i8 w,iM a,iM b]=some (.tup [.tup ((evL w a b).map iO),.tup ((ahL w a b).map iO)]):=by show(dW (i8 w)).bind (λ w=>(ju (iM a)).bind λ a=>(ju (iM b)).bind λ b=>if a<w.1/\b<w.1/\a≠b then some (Dt.tup [.tup ((evL w a b).map iO),.tup ((ahL w a b).map iO)]) else none)=_;rw[kf g,jk,jk,ae,ae,ae,af ⟨ha,hb,ne⟩]
theorem T3 {l:List Rat}(h:CbL l)(len:l.length<=30):sm (sqL l):=by obtain⟨D,N,h1,h2,h3,h4,h5,h6,h7⟩:=Hi h;have hl:(l.map λ x=>x*x).length*(N*N)<=30*(N*N):=eO _ (by rw[ag];exact len);exact sC (uK (fk h1 h1) h3 (λ x hx=>by obtain⟨y,hy,rfl⟩:=aD.mp hx;exact BU (h7 y hy) (h7 y hy)) (by lia) (by lia)).2 (fk h1 h1) h3 (by lia)
theorem Good.T4 {w:Web}(g:Good w){l:List Rat}(len:l.length=w.1)(h:CbL l):sm (sqL (flL w l)):=by
 obtain⟨D,N,h1,h2,h3,h4⟩:=h.OW g len;have l30:=g.sD;have hl:((flL w l).map λ x=>x*x).length*((2*N)*(2*N))<=30*((2*N)*(2*N)):=eO _ (by unfold flL;rw[ag,ag];exact l30);have e4:(2*N)*(2*N)=4*(N*N):=by rw[Nat.mul_mul_mul_comm]
 rw[e4]at hl;exact sC (uK (N:=4*(N*N)) (fk h1 h1) h2 (λ x hx=>by obtain⟨y,hy,rfl⟩:=aD.mp hx;obtain⟨t,ht,rfl⟩:=aD.mp hy;rw[<-e4];exact BU (h4 t ht) (h4 t ht)) (by lia) (by lia)).2 (fk h1 h1) h2 (by lia)
theorem T5 (a b:Rat):mv (.tup [iO a,iO b]) (.tup [iO a,iO b])=some (.bl false):=by have:=SE [a,b] [a,b];rw[decide_eq_true rfl]at this;exact this
def r0:DE->iA RD:=(kZ 4 (iT 3 kn (iL (iN 1) (iL (iN 2) (iL (iN 3) iQ)))))
def r1:DE->iA RD:=(kZ 5 (iT 2 l_ (iL (iY dIx (iT 2 uJ (iL (iN 1) (iL (iN 3) iQ))) (iN 2)) (iL (iY dIx (iT 2 uJ (iL (iN 1) (iL (iN 2) iQ))) (iN 3)) iQ))))
def r2:DE->iA RD:=(ng (qp (gB (iY mv (iN 5) (iT 2 kJ (iL (kL (iL (iY mL (gC (.int 2)) (jF om (iL (iY dIx (iN 1) (gC (.int 1))) iQ))) (iL (gC (.int 1)) iQ))) (iL (iN 4) iQ))))) (gB (iY mv (iN 4) (iT 3 kn (iL (iN 1) (iL (iN 3) (iL (iN 2) iQ))))))) (jJ (gC (.bl false))) kT)
def r3:DE->iA RD:=(kZ 6 (iT 3 vP (iL (iN 1) (iL (iN 2) (iL (iN 3) iQ)))))
def r4:DE->iA RD:=(ng (qp (gB (iY C_ (iT 4 kE (iL (iN 1) (iL (iN 2) (iL (iN 3) (iL (iN 6) iQ))))) (gC (.bl true)))) (qp (gB (iY mv (iT 4 qW (iL (iN 1) (iL (iN 2) (iL (iN 3) (iL (iN 6) iQ))))) (iN 4))) (gB (iY mv (iY dIx (iT 3 nP (iL (iN 1) (iL (iN 2) (iL (iN 3) iQ)))) (iN 2)) (iN 4))))) (jJ (gC (.bl false))) kT)
def r5:DE->iA RD:=(kZ 7 (iT 3 oF (iL (iN 1) (iL (iN 2) (iL (iN 3) iQ)))))
def r6:DE->iA RD:=(ng (qp (gB (iY mv (iT 4 pX (iL (iN 1) (iL (iN 2) (iL (iN 3) (iL (iN 7) iQ))))) (kL (iL (iN 4) (iL (iN 4) iQ))))) (gB (iY C_ (iT 4 lX (iL (iN 1) (iL (iN 2) (iL (iN 3) (iL (iN 7) iQ))))) (gC (.bl true))))) (jJ (gC (.bl false))) kT)
def r10:DE->iA RD:=(ue (kY 10 11) (iT 4 pX (iL (iN 1) (iL (iN 2) (iL (iN 3) (iL (kL (iL (iN 9) (iL (jF pN (iL (iN 8) iQ)) iQ))) iQ))))))
def r11:DE->iA RD:=(ng (qp (kX (gTr (iT 2 kB (iL (iN 4) (iL (iN 10) iQ))))) (qp (kX (gTr (iT 2 kB (iL (iN 11) (iL (iN 4) iQ))))) (gB (iY mv (iN 11) (iT 4 qW (iL (iN 1) (iL (iN 2) (iL (iN 3) (iL (iN 9) iQ))))))))) (jJ (gC (.bl false))) kT)
def r12:DE->iA RD:=(jJ (gOr (iY kx (iN 9) (iN 6)) (iY mv (iN 11) (iN 4))))
section
variable {w:Web}(g:Good w){a b:Nat}(ha:a<w.1)(hb:b<w.1)(ne:a≠b)
include g ha hb ne
theorem Good.T6 (x0 x4 x5 x6 x7 x8 x9 x10 x11:iA Dt):r0 [x0,some (i8 w),some (iM a),some (iM b),x4,x5,x6,x7,x8,x9,x10,x11]=some (.nx [x0,some (i8 w),some (iM a),some (iM b),some (iO (hiQ w a b)),x5,x6,x7,x8,x9,x10,x11]):=by have c1:=AX g ha hb ne;generalize iO (hiQ w a b)=hq at *;generalize i8 w=ww at *;generalize iM a=na at *;generalize iM b=nb at *;simp[r0,c1]
theorem Good.T7 (x0 x4 x5 x6 x7 x8 x9 x10 x11:iA Dt):r1 [x0,some (i8 w),some (iM a),some (iM b),x4,x5,x6,x7,x8,x9,x10,x11]=some (.nx [x0,some (i8 w),some (iM a),some (iM b),x4,some (iO (meQ w b a+meQ w a b)),x6,x7,x8,x9,x10,x11]):=by have c1:=Ta g hb;have c2:=Ta g ha;have i1:=OU (w:=w) (b:=b) ha;have i2:=OU (w:=w) (b:=a) hb;have c3:=QT (g.OT hb a) (g.OT ha b) (by decide) (by decide);generalize iO (meQ w b a+meQ w a b)=r at *;generalize iO (meQ w b a)=q1 at *;generalize iO (meQ w a b)=q2 at *;generalize (meL w b).map iO=l1 at *;generalize (meL w a).map iO=l2 at *;generalize i8 w=ww at *;generalize iM a=na at *;generalize iM b=nb at *;simp[r1,c1,c2,i1,i2,c3]
theorem Good.T8 (x0 x6 x7 x8 x9 x10 x11:iA Dt):r2 [x0,some (i8 w),some (iM a),some (iM b),some (iO (hiQ w a b)),some (iO (meQ w b a+meQ w a b)),x6,x7,x8,x9,x10,x11]=some (.nx [x0,some (i8 w),some (iM a),some (iM b),some (iO (hiQ w a b)),some (iO (meQ w b a+meQ w a b)),x6,x7,x8,x9,x10,x11]):=by
 have l30:=g.sD;have ix:dIx (i8 w) (.int 1)=some (kc w.2):=rfl;have ln:om [kc w.2]=some (iM w.2.length):=by show some (Dt.int ((w.2.map jD).length:Int))=_;rw[ag]
 have ml:mL (.int 2) (iM w.2.length)=some (.int ((2*w.2.length:Nat):Int)):=by have b1:bd 2:=QH (by decide);have b2:bd (w.2.length:Int):=QH (by lia);show(if bd 2/\bd (w.2.length:Int) then some (Dt.int (2*(w.2.length:Int))) else none)=_;rw[af ⟨b1,b2⟩];congr 2
 have tm:my [.tup [.int ((2*w.2.length:Nat):Int),.int 1],iO (hiQ w a b)]=some (iO (meQ w b a+meQ w a b)):=by rw[g.xu ha hb];exact zh (x:=((2*w.2.length:Nat):Rat)) ⟨by show((2*w.2.length:Nat):Int).natAbs<_;exact bR (m:=60) (by lia) (by decide +kernel),by show 1<_;decide +kernel⟩ (g.zj ha hb a)
 obtain⟨k,hk⟩:∃ k:Int,k=((2*w.2.length:Nat):Int):=⟨_,rfl⟩;rw[<-hk]at ml tm;have hs:=AX g hb ha (aX ne);rw[<-g.QB ha hb]at hs;have n1:=IC (hiQ w a b) (hiQ w a b);have n2:=IC (meQ w b a+meQ w a b) (meQ w b a+meQ w a b);rw[decide_eq_true rfl]at n1 n2;generalize iO (hiQ w a b)=hq at *;generalize iO (meQ w b a+meQ w a b)=mq at *;generalize kc w.2=tt at *;generalize i8 w=ww at *;generalize iM a=na at *;generalize iM b=nb at *;generalize iM w.2.length=nl at *;simp[r2,ix,ln,ml,tm,hs,n1,n2]
theorem Good.T9 (x0 x4 x5 x6 x7 x8 x9 x10 x11:iA Dt):r3 [x0,some (i8 w),some (iM a),some (iM b),x4,x5,x6,x7,x8,x9,x10,x11]=some (.nx [x0,some (i8 w),some (iM a),some (iM b),x4,x5,some (.tup ((evL w a b).map iO)),x7,x8,x9,x10,x11]):=by have c1:=TY g ha hb ne;generalize (evL w a b).map iO=hq at *;generalize i8 w=ww at *;generalize iM a=na at *;generalize iM b=nb at *;simp[r3,c1]
theorem Good.T_ (x0 x5 x7 x8 x9 x10 x11:iA Dt):r4 [x0,some (i8 w),some (iM a),some (iM b),some (iO (hiQ w a b)),x5,some (.tup ((evL w a b).map iO)),x7,x8,x9,x10,x11]=some (.nx [x0,some (i8 w),some (iM a),some (iM b),some (iO (hiQ w a b)),x5,some (.tup ((evL w a b).map iO)),x7,x8,x9,x10,x11]):=by have sp:=g.Lq ha hb ne;have c1:=FL g ha hb ne sp;have c2:=Lr g ha hb ne sp;rw[g.OY ha hb ne]at c2;have c3:=QZ g ha hb ne;have i3:dIx (.tup ((htL w a b).map iO)) (iM a)=some (iO (hiQ w a b)):=Hl ha;have n1:=IC (hiQ w a b) (hiQ w a b);rw[decide_eq_true rfl]at n1;generalize iO (hiQ w a b)=hq at *;generalize (evL w a b).map iO=eq at *;generalize (htL w a b).map iO=hl at *;generalize i8 w=ww at *;generalize iM a=na at *;generalize iM b=nb at *;simp[r4,c1,c2,c3,i3,n1]
theorem Good.Ua (x0 x4 x5 x6 x7 x8 x9 x10 x11:iA Dt):r5 [x0,some (i8 w),some (iM a),some (iM b),x4,x5,x6,x7,x8,x9,x10,x11]=some (.nx [x0,some (i8 w),some (iM a),some (iM b),x4,x5,x6,some (.tup [.tup ((evL w a b).map iO),.tup ((ahL w a b).map iO)]),x8,x9,x10,x11]):=by have c1:=TZ g ha hb ne;generalize (evL w a b).map iO=hq at *;generalize (ahL w a b).map iO=hq2 at *;generalize i8 w=ww at *;generalize iM a=na at *;generalize iM b=nb at *;simp[r5,c1]
theorem Good.Ub (x0 x5 x6 x8 x9 x10 x11:iA Dt):r6 [x0,some (i8 w),some (iM a),some (iM b),some (iO (hiQ w a b)),x5,x6,some (.tup [.tup ((evL w a b).map iO),.tup ((ahL w a b).map iO)]),x8,x9,x10,x11]=some (.nx [x0,some (i8 w),some (iM a),some (iM b),some (iO (hiQ w a b)),x5,x6,some (.tup [.tup ((evL w a b).map iO),.tup ((ahL w a b).map iO)]),x8,x9,x10,x11]):=by have sp:=g.Lq ha hb ne;have lp:=g.Q2 ha hb ne;have c1:=OX g ha hb ne sp lp;rw[g.OY ha hb ne,g.Te ha hb ne]at c1;have c2:=Ls g ha hb ne sp lp;have n1:=T5 (hiQ w a b) (hiQ w a b);generalize iO (hiQ w a b)=hq at *;generalize (evL w a b).map iO=eq at *;generalize (ahL w a b).map iO=al at *;generalize i8 w=ww at *;generalize iM a=na at *;generalize iM b=nb at *;simp[r6,c1,c2,n1]
omit ha hb ne in
theorem Rq (ha:a<w.1)(hb:b<w.1)(ne:a≠b){l m:List Rat}(sp:mz w a b l)(lp:nX w a b m)(x0 x4 x5 x6 x7 x10 x11:iA Dt):r10 [x0,some (i8 w),some (iM a),some (iM b),x4,x5,x6,x7,some (.lst (m.map iO)),some (.tup (l.map iO)),x10,x11]=some (.nx [x0,some (i8 w),some (iM a),some (iM b),x4,x5,x6,x7,some (.lst (m.map iO)),some (.tup (l.map iO)),some (iO (sqL (flL w m))⁻¹),some (iO (sqL l))]):=by have c1:=OX g ha hb ne sp lp;generalize iO (sqL (flL w m))⁻¹=q1 at *;generalize iO (sqL l)=q2 at *;generalize l.map iO=ll at *;generalize m.map iO=ml at *;generalize i8 w=ww at *;generalize iM a=na at *;generalize iM b=nb at *;simp[r10,c1]
theorem Good.Rr {l m:List Rat}(sp:mz w a b l)(lp:nX w a b m)(x0 x5 x6 x7 x8:iA Dt):r11 [x0,some (i8 w),some (iM a),some (iM b),some (iO (hiQ w a b)),x5,x6,x7,x8,some (.tup (l.map iO)),some (iO (sqL (flL w m))⁻¹),some (iO (sqL l))]=some (.nx [x0,some (i8 w),some (iM a),some (iM b),some (iO (hiQ w a b)),x5,x6,x7,x8,some (.tup (l.map iO)),some (iO (sqL (flL w m))⁻¹),some (iO (sqL l))]):=by
 have l30:=g.sD;have sh:=g.zj ha hb (a:=a) a;have sh:sm (hiQ w a b):=sh;have hp:=g.Ed ha hb ne lp;have sl:sm (sqL (flL w m))⁻¹:=Rc (e:=1900) hp (g.T4 lp.len lp.cbl);have ss:=T3 sp.cbl (by rw[sp.len];exact l30);have c1:=Lx sh sl;have c2:=Lx ss sh;have h1:(sqL (flL w m))⁻¹<=hiQ w a b:=by have:=g.Ec ha hb ne lp;have hh:=g.yU ha hb ne;have e1:=bZ _ (show hiQ w a b≠0 by grind);have e2:=bZ _ (show sqL (flL w m)≠0 by grind);have p2:=hX.mpr hp;have p1:=hX.mpr hh;have k1:=Rat.mul_le_mul_of_nonneg_left this (show 0<=hiQ w a b by grind);rw[e1]at k1;have k2:=Rat.mul_le_mul_of_nonneg_right k1 (show 0<=(sqL (flL w m))⁻¹ by grind);rw[Rat.mul_assoc,e2]at k2;grind
 have h2:=(g.Lv ha hb ne sp).1;rw[decide_eq_true h1]at c1;rw[decide_eq_true h2]at c2;have c3:=Lr g ha hb ne sp;have n1:=IC (sqL l) (sqL l);rw[decide_eq_true rfl]at n1;generalize iO (hiQ w a b)=hq at *;generalize iO (sqL (flL w m))⁻¹=q1 at *;generalize iO (sqL l)=q2 at *;generalize l.map iO=ll at *;generalize i8 w=ww at *;generalize iM a=na at *;generalize iM b=nb at *;simp[r11,c1,c2,c3,n1]
theorem Good.Rt {l:List Rat}(sp:mz w a b l)(x0 x1 x2 x3 x5 x7 x8 x10:iA Dt):r12 [x0,x1,x2,x3,some (iO (hiQ w a b)),x5,some (.tup ((evL w a b).map iO)),x7,x8,some (.tup (l.map iO)),x10,some (iO (sqL l))]=some (.rt (.bl true)):=by
 have h2:=(g.Lv ha hb ne sp).2;have e1:=SD l (evL w a b);have n1:=IC (sqL l) (hiQ w a b);by_cases c:l=evL w a b
 ·rw[decide_eq_true c]at e1;generalize iO (hiQ w a b)=hq at *;generalize iO (sqL l)=q2 at *;generalize l.map iO=ll at *;generalize (evL w a b).map iO=el at *;simp[r12,e1]
 ·rw[decide_eq_false c]at e1;rw[decide_eq_false λ z=>c (h2 z)]at n1;generalize iO (hiQ w a b)=hq at *;generalize iO (sqL l)=q2 at *;generalize l.map iO=ll at *;generalize (evL w a b).map iO=el at *;simp[r12,e1,n1]
end
theorem Ct {s:Rat}{x y:Int}(hn:s.num.natAbs<=2*10 ^ 27)(hd:s.den<=10 ^ 27)(hx:x.natAbs<=100)(hy:y.natAbs<=100):sm (s*(x:Rat)+(1-s)*(y:Rat)) :=
 sC (L5 hn hd hx hy) s.den_pos (bR hd (by decide +kernel)) (by decide +kernel)
def stG:DE->iA RD:=jL (kZ 7 (iT 2 ra (iL (kL (iL (gC (.int 1)) (iL (gC (.int 1)) iQ))) (iL (iN 4) iQ)))) (jJ (jF pN (iL (gLC ["_law_x","_law_y"] [4,7] (Fg false false (iL (iN 5) (iL (iN 6) iQ))) (kY 0 1) kA (iT 2 l_ (iL (iT 2 kJ (iL (iN 2) (iL (kL (iL (iN 0) (iL (gC (.int 1)) iQ))) iQ))) (iL (iT 2 kJ (iL (iN 3) (iL (kL (iL (iN 1) (iL (gC (.int 1)) iQ))) iQ))) iQ)))) iQ)))
def Ru:DE->iA Dt:=(iT 2 l_ (iL (iT 2 kJ (iL (iN 2) (iL (kL (iL (iN 0) (iL (gC (.int 1)) iQ))) iQ))) (iL (iT 2 kJ (iL (iN 3) (iL (kL (iL (iN 1) (iL (gC (.int 1)) iQ))) iQ))) iQ)))
theorem Rv {w:Web}(g:Good w){s:Rat}{ps qs:List Nat}(hn:s.num.natAbs<=2*10 ^ 27)(hd:s.den<=10 ^ 27)(lp:ps.length<=100)(lq:qs.length<=100)(x0 x1 x2 x3 x7:iA Dt) :
  stG [x0,x1,x2,x3,some (iO s),some (.lst ((w.2.map (flw ps)).map .int)),some (.lst ((w.2.map (flw qs)).map .int)),x7]=some (.rt (.tup ((F0 w s ps qs).map iO))):=by
 have l30:=g.sD;have z0:((0:Int)).natAbs<=100:=by decide
 have z1:((1:Int)).natAbs<=100:=by decide
 have i0:((0:Int):Rat)=0:=rfl;have i1:((1:Int):Rat)=1:=rfl;have ss:sm s:=by
  have:=Ct (x:=1) (y:=0) hn hd z1 z0;rw[i0,i1]at this;have e:s*1+(1-s)*0=s:=by grind
  rwa [e]at this
 have s1:sm (1-s):=by
  have:=Ct (x:=0) (y:=1) hn hd z0 z1;rw[i0,i1]at this;have e:s*0+(1-s)*1=1-s:=by grind
  rwa [e]at this
 have si:∀ {x:Int},x.natAbs<=100->sm (x:Rat):=λ{x} hx=>⟨bR hx (by decide +kernel),by show 1<_;decide +kernel⟩;have sx:∀ {x:Int},x.natAbs<=100->sm (s*(x:Rat)):=λ{x} hx=>by
  have:=Ct (x:=x) (y:=0) hn hd hx z0;rw[i0]at this;have e:s*(x:Rat)+(1-s)*0=s*(x:Rat):=by grind
  rwa [e]at this
 have sy:∀ {x:Int},x.natAbs<=100->sm ((1-s)*(x:Rat)):=λ{x} hx=>by
  have:=Ct (x:=0) (y:=x) hn hd z0 hx;rw[i0]at this;have e:s*0+(1-s)*(x:Rat)=(1-s)*(x:Rat):=by grind
  rwa [e]at this
 have c1:mR [.tup [.int 1,.int 1],iO s]=some (iO (1-s)):=BW (x:=1) (si (x:=1) z1) ss;have zp:Fd false false [.lst ((w.2.map (flw ps)).map .int),.lst ((w.2.map (flw qs)).map .int)]=some (w.2.map λ t=>Dt.tup [.int (flw ps t),.int (flw qs t)]):=by show some ((((w.2.map (flw ps)).map Dt.int).zip ((w.2.map (flw qs)).map Dt.int)).map λ(p,q)=>Dt.tup [p,q])=_;rw[aH,aH,List.zip_map',aH];rfl
 have lc:=jZ (enc:=λ t:Nat×Nat=>Dt.tup [.int (flw ps t),.int (flw qs t)]) (gg:=kY 0 1) (ge:=Ru) (δc:=[none,none,some (iO s),some (iO (1-s))]) (δa:=λ t=>[some (.int (flw ps t)),some (.int (flw qs t)),some (iO s),some (iO (1-s))])
  (enc':=λ t=>iO (s*(flw ps t:Rat)+(1-s)*(flw qs t:Rat))) w.2 λ t _=>⟨rfl,by have hx:=bf (zM ps t) lp;have hy:=bf (zM qs t) lq;have t1:my [iO s,.tup [.int (flw ps t),.int 1]]=some (iO (s*(flw ps t:Rat))):=zh ss (si hx);have t2:my [iO (1-s),.tup [.int (flw qs t),.int 1]]=some (iO ((1-s)*(flw qs t:Rat))):=zh s1 (si hy);have t3:=L7 (sx hx) (sy hy);generalize iO (s*(flw ps t:Rat)+(1-s)*(flw qs t:Rat))=r at *;generalize iO (s*(flw ps t:Rat))=r1 at *;generalize iO ((1-s)*(flw qs t:Rat))=r2 at *;generalize iO (1-s)=r3 at *;generalize iO s=r4 at *;simp[Ru,t1,t2,t3]⟩
 have em:w.2.map (λ t=>iO (s*(flw ps t:Rat)+(1-s)*(flw qs t:Rat)))=(F0 w s ps qs).map iO:=by unfold F0;rw[aH];rfl
 rw[em]at lc;have hl:(w.2.map λ t=>Dt.tup [.int (flw ps t),.int (flw qs t)]).length<=1000:=by rw[ag];lia
 generalize (F0 w s ps qs).map iO=res at *;generalize (w.2.map λ t=>Dt.tup [.int (flw ps t),.int (flw qs t)])=zz at *;generalize (w.2.map (flw ps)).map Dt.int=z1 at *;generalize (w.2.map (flw qs)).map Dt.int=z2 at *;generalize iO (1-s)=r3 at *;generalize iO s=r4 at *;unfold Ru at lc;simp[stG,c1,zp,lc,hl]
end L2
namespace K44
open PySem PySem.Spec PyProof.Rows L2 Zp
theorem imQ (x:Rat):Imm (iO x):=.tup (.cons (.int _) (.cons (.int _) .nil))
theorem But.text {p:Addr}{H H':Hp}{n:Int}(b:But p H H')(hp:H p=some (.lst [.int n])):jY H H':=⟨λ c xs e=>b c _ e (λ z=>by subst z;rw[hp]at e;cases e),λ c o u e=>b c _ e (λ z=>by subst z;rw[hp]at e;cases e)⟩
def stF (K:iF)(i:Nat):TS:=kP (kD (L0 K) [] E0 (i_ (jj 1) (i_ (kD (L4 K) [] E0 (i_ (jj 0) (i_ (jj 1) (i_ (jj 2) (i_ (jj 3) jG))))) jG))) (jt i)
def stA (K:iF):TS:=jO (kP (kD (Co K) [] E0 (i_ (jj 0) jG)) (jt 4)) (jO (stF K 5) (jO (stF K 6) (tDS K stG)))
section
variable {P:Program}{w:World}{K:iF}{mg:iq}{base:Heap}{ww:Web}{v:V}{H:Hp}{p:Addr}{a b:Nat}{D:Ends}
theorem HJ (g:Good ww){n:Int}(ha:a<ww.1)(hb:b<ww.1)(iw:Is K H v (i8 ww))(hp:H p=some (.lst [.int n])){i:Nat}{r:L2.St}
  (h:∀ o qs H',Pth ww a qs->qs.getLast?=some b->qs.length<=100->But p H H'->o≠p->H' o=some (.lst ((ww.2.map (flw qs)).map V.int))->(∃ n',H' p=some (.lst [.int n']))->Is K H' v (i8 ww)->D.nx ((some (.ref p)::some v::some (iV a)::some (iV b)::r).set i (some (.ref o))) H'):stF K i D (some (.ref p)::some v::some (iV a)::some (iV b)::r) H:=by
 refine⟨_,rfl,_,rfl,_,rfl,_,rfl,_,rfl,p,n,v,ww,a,b,rfl,g,ha,hb,iw,hp,λ l H1 qs x1 pt hq hq2=>?_⟩;refine⟨v,ww,l,qs,rfl,g,x1.iw,x1.hl,(λ z=>by subst z;cases hq),pt.st,λ o H2 s2 n2 h2=>?_⟩;obtain⟨n1,hp1⟩:=x1.hp;exact h o qs H2 pt hq hq2 (x1.but.trans' (But.of_same s2)) (λ z=>by subst z;rw[hp1]at n2;cases n2) h2 ⟨n1,s2 _ _ hp1⟩ (x1.iw.ext s2)
theorem Rx (g:Good ww){n:Int}(ha:a<ww.1)(hb:b<ww.1)(iw:Is K H v (i8 ww))(hp:H p=some (.lst [.int n])){x4 x5 x6 x7:iA V}
  (q:∀ u H' l,Is K H' u (.tup (l.map iO))->mz ww a b l->(∃ n',H' p=some (.lst [.int n']))->But p H H'->D.rt u H'):stA K D [some (.ref p),some v,some (iV a),some (iV b),x4,x5,x6,x7] H:=by
 refine⟨_,rfl,p,n,rfl,hp,λ u H1 n1 s i1 hn hd hp1 b1=>?_⟩;refine HJ g ha hb (iw.text (b1.text hp) (imW ww)) hp1 λ o1 ps H2 pt1 pb1 pl1 b2 op1 h1 hp2 iw2=>?_;obtain⟨n2,hp2⟩:=hp2;have i2:=i1.text (b2.text hp1) (imQ s);refine HJ g ha hb iw2 hp2 λ o2 qs H3 pt2 pb2 pl2 b3 op2 h2 hp3 iw3=>?_;have i3:=i2.text (b3.text hp2) (imQ s);have h13:=b3 _ _ h1 op1;refine⟨_,_,stN (stN (stN (stN (stS i3 (stS (.lst h13 (Iss.rO _)) (stS (.lst h2 (Iss.rO _)) (stN L2.stE))))))),Rv g hn hd pl1 pl2 ..,λ H4 s4 u iu=>?_⟩;exact q u H4 _ iu (g.N5 hn hd pl1 pl2 pt1.hd pb1 pt1.st pt2.hd pb2 pt2.st) (hp3.imp λ _ e=>s4 _ _ e) (((b1.trans' b2).trans' b3).trans' (But.of_same s4))
def Ey (K:iF):Sp:=λ vs H Q _=>∃ (p:Addr) (n:Int) (v:V) (ww:Web) (a b:Nat),vs=[.ref p,v,iV a,iV b]/\Good ww/\a<ww.1/\b<ww.1/\Is K H v (i8 ww)/\H p=some (.lst [.int n]) /\
 ∀ u H' l,Is K H' u (.tup (l.map iO))->mz ww a b l->(∃ n',H' p=some (.lst [.int n']))->But p H H'->Q u H'
theorem IZ (T:Txt K mg):OkT P w base T.oY 4 (Ey K):=by
 refine T.oY.F.ok lh (λ vs H Q E h=>?_) (λ cdv A outer s H vs Q E hr h=>?_)
 ·obtain⟨p,n,v,ww,a,b,rfl,_⟩:=h;rfl
 ·obtain⟨p,n,v,ww,a,b,rfl,hg,ha,hb,iw,hp,q⟩:=h
  refine⟨stA K,iW (jC (i:=4) lh.nd rfl (Or.inr rfl) (pC T.lS (uZ T) hr (iR (pv 0) jb)))
   (iW (jC (i:=5) lh.nd rfl (Or.inl rfl) (pC T.oH (u7 T) hr (iR (pv 1) (iR (pC T.oJ (HI T) hr (iR (pv 0) (iR (pv 1) (iR (pv 2) (iR (pv 3) jb))))) jb)))) (iW (jC (i:=6) lh.nd rfl (Or.inl rfl) (pC T.oH (u7 T) hr (iR (pv 1) (iR (pC T.oJ (HI T) hr (iR (pv 0) (iR (pv 1) (iR (pv 2) (iR (pv 3) jb))))) jb)))) (je (k8 (i:=7) lh.nd (dC T.rC (Cg T) hr (iK (nT (iK ji (iK ji iS))) (iK (dv 4) iS)))) (i9 (jm (o7 uj T.lT boot_tuple (iK (r8 rfl (csc ["_law_x","_law_y"] ["_law_share","_law_rest"] [4,7]) (Dq false false T.AV (iK (dv 5) (iK (dv 6) iS))) (λ _ _ _ _=>(jS rfl (jc (pgo 0) (jc (pgo 1) jH)))) (mj (jE (by decide) (jE (by decide) lC))) j9 (λ _ _ _ _=>lW) (λ _ _ _ _=>(dC T.mX (qg T) hr (iK (dC T.mE (o3 T) hr (iK (dv 2) (iK (nT (iK (dv 0) (iK ji iS))) iS))) (iK (dC T.mE (o3 T) hr (iK (dv 3) (iK (nT (iK (dv 1) (iK ji iS))) iS))) iS))))) iS))))))),?_⟩
  exact Rx hg ha hb iw hp q
end
end K44
namespace L2
open PySem PySem.Spec PyProof.Rows Zp Qs
section
variable {K:iF}{H:Hp}
theorem Sat.inv {σ:L2.St}{d:Dt}{δ:DE}(S:Sat K H σ (some d::δ)):∃ v σ',σ=some v::σ'/\Is K H v d/\Sat K H σ' δ:=by
 obtain⟨v,e,i⟩:=S.at_ 0 d rfl;cases σ with
 | nil=>cases e
 | cons x r=>cases e;exact⟨v,r,rfl,i,Nat.succ.inj S.len,λ j d hj=>S.at_ (j+1) d hj⟩
theorem Sat.L8 {σ:L2.St}{δ:DE}(S:Sat K H σ (none::δ)):∃ x σ',σ=x::σ'/\Sat K H σ' δ:=by
 cases σ with
 | nil=>cases S.len
 | cons x r=>exact⟨x,r,rfl,Nat.succ.inj S.len,λ j d hj=>S.at_ (j+1) d hj⟩
theorem Sat.VF {σ:L2.St}(S:Sat K H σ [none,none,none,none]):∃ x0 x1 x2 x3,σ=[x0,x1,x2,x3]:=by
 obtain⟨x0,r0,rfl,S0⟩:=S.L8;obtain⟨x1,r1,rfl,S1⟩:=S0.L8;obtain⟨x2,r2,rfl,S2⟩:=S1.L8;obtain⟨x3,r3,rfl,S3⟩:=S2.L8;have:=S3.len;cases r3 with
 | nil=>exact⟨_,_,_,_,rfl⟩
 | cons _ _=>cases this
theorem Iss.set {v:V}{d:Dt}(h:Is K H v d):∀ {vs:List V} {ds:List Dt} (i:Nat),Iss K H vs ds->Iss K H (vs.set i v) (ds.set i d)
 | _,_,_,.nil=>.nil
 | _,_,0,.cons a b=>.cons h b
 | _,_,i+1,.cons a b=>.cons a (Iss.set h i b)
end
end L2
namespace K44
open PySem PySem.Spec PyProof.Rows L2 Zp
def lvS (l:List Rat)(a b:Nat):List Rat:=(l.set a 1).set b 0
def Bnd (x:Rat):Prop:=x.num.natAbs<=2*10 ^ 27/\x.den<=10 ^ 27
theorem N7 {ww:Web}(g:Good ww){a b:Nat}(ha:a<ww.1)(hb:b<ww.1)(ne:a≠b){l:List Rat}(hl:l.length=ww.1)(h:∀ x∈l,Bnd x):nX ww a b (lvS l a b):=by
 have h8:=g.km;refine⟨by unfold lvS;simp[hl],N6 (by unfold lvS;simp;lia) λ x hx=>?_,?_,?_⟩
 ·rcases gS hx with z | z
  ·rcases gS z with z | z
   ·exact h x z
   ·rw[z];exact⟨by decide,by decide⟩
  ·rw[z];exact⟨by decide,by decide⟩
 ·unfold lvS;rw[au,bM (aX ne),cW (by lia)];rfl
 ·unfold lvS;rw[au,cW (by rw[gy];lia)];rfl
def rLv (K:iF):TS:=λ D σ H=>tLC ["_law_place"] [0] (vX (i_ (tOp (JB K) (jj 1) (tC (V.int 0))) jG)) (jt 0) E8 (kD (Co K) [] E0 (i_ (jj 1) jG)) σ H λ v H'=>D.nx (List.set σ 8 (some v)) H'
def rTp (x y:Int):TE:=CI (i_ (tC (V.int x)) (i_ (tC (V.int y)) jG))
def rSt (K:iF):TS:=kP (CI (i_ (rTp 1 1) (i_ (rTp 0 1) jG))) (wW K 2 (lG (A4 (jj 8) (jj 2) tQ) (lG (A4 (jj 8) (jj 3) tQ) wV)))
def rB:DE->iA RD:=jL r10 (jL r11 r12)
def rT (K:iF):TS:=jO (kP (kD (Ey K) [] E0 (i_ (jj 0) (i_ (jj 1) (i_ (jj 2) (i_ (jj 3) jG))))) (jt 9)) (tDS K rB)
def rA (K:iF):TS:=jO (tDS K r0) (jO (tDS K r1) (jO (tDS K r2) (jO (tDS K r3) (jO (tDS K r4) (jO (tDS K r5) (jO (tDS K r6) (jO (rLv K) (jO (rSt K) (rT K)))))))))
theorem VG (l:List Rat):Imm (.tup (l.map iO)):=.tup (oP.of λ d hd=>by obtain⟨x,_,rfl⟩:=aD.mp hd;exact imQ x)
theorem imL (l:List Rat):oP (l.map iO):=oP.of λ d hd=>by obtain⟨x,_,rfl⟩:=aD.mp hd;exact imQ x
section
variable {P:Program}{w:World}{K:iF}{mg:iq}{base:Heap}{ww:Web}{v:V}{H0 H:Hp}{p:Addr}{a b:Nat}{D:Ends}
structure RH (K:iF)(ww:Web)(v u4 u6:V)(H0:Hp)(p:Addr)(a b:Nat)(H:Hp):Prop where
 but:But p H0 H
 hp:∃ n,H p=some (.lst [.int n])
 iw:Is K H v (i8 ww)
 i4:Is K H u4 (iO (hiQ ww a b))
 i6:Is K H u6 (.tup ((evL ww a b).map iO))
variable {u4 u6:V}
theorem RH.text {H':Hp}(x:RH K ww v u4 u6 H0 p a b H)(t:jY H H')(bt:But p H0 H')(hp:∃ n,H' p=some (.lst [.int n])):RH K ww v u4 u6 H0 p a b H':=⟨bt,hp,x.iw.text t (imW ww),x.i4.text t (imQ _),x.i6.text t (VG _)⟩
theorem RH.ext {H':Hp}(x:RH K ww v u4 u6 H0 p a b H)(s:iZ H H'):RH K ww v u4 u6 H0 p a b H':=x.text s.text (x.but.trans' (But.of_same s)) (x.hp.imp λ _ h=>s _ _ h)
theorem RH.by {H':Hp}(x:RH K ww v u4 u6 H0 p a b H)(bt:But p H H')(hp:∃ n,H' p=some (.lst [.int n])):RH K ww v u4 u6 H0 p a b H':=by obtain⟨n,h⟩:=x.hp;exact x.text (bt.text h) (x.but.trans' bt) hp
abbrev sgR (p:Addr)(v:V)(a b:Nat)(u4:V)(x5:iA V)(u6:V)(x7 x8 x9 x10 x11:iA V):L2.St:=[some (.ref p),some v,some (iV a),some (iV b),some u4,x5,some u6,x7,x8,x9,x10,x11]
theorem Uc (g:Good ww)(ha:a<ww.1)(hb:b<ww.1)(ne:a≠b){l m:List Rat}(sp:mz ww a b l)(lp:nX ww a b m):rB [none,some (i8 ww),some (iM a),some (iM b),some (iO (hiQ ww a b)),none,some (.tup ((evL ww a b).map iO)),none,some (.lst (m.map iO)),some (.tup (l.map iO)),none,none]=some (.rt (.bl true)):=by unfold rB;simp only[Sv,Rq g ha hb ne sp lp,g.Rr ha hb ne sp lp,g.Rt ha hb ne sp,ae]
theorem Ry (g:Good ww)(ha:a<ww.1)(hb:b<ww.1)(ne:a≠b)(x:RH K ww v u4 u6 H0 p a b H){lv:Addr}{vs:List V}{m:List Rat}(hv:H lv=some (.lst vs))(lvp:lv≠p)(is:Iss K H vs (m.map iO))(lp:nX ww a b m){x5 x7 x9 x10 x11:iA V}
  (q:∀ H',(∃ n',H' p=some (.lst [.int n']))->But p H0 H'->D.rt (.bl true) H'):rT K D (sgR p v a b u4 x5 u6 x7 (some (.ref lv)) x9 x10 x11) H:=by
 obtain⟨n,hp⟩:=x.hp;refine⟨_,rfl,_,rfl,_,rfl,_,rfl,p,n,v,ww,a,b,rfl,g,ha,hb,x.iw,hp,λ u H1 l iu sp hp1 b1=>?_⟩;have x1:=x.by b1 hp1;have hv1:=b1 _ _ hv lvp;have is1:=is.text (b1.text hp) (imL m);refine⟨_,_,stN (stS x1.iw (stS (.int _) (stS (.int _) (stS x1.i4 (stN (stS x1.i6 (stN (stS (.lst hv1 is1) (stS iu (stN (stN L2.stE))))))))))),Uc g ha hb ne sp lp,λ H2 s2 z iz=>?_⟩;rw[iz.lJ];exact q H2 (hp1.imp λ _ h=>s2 _ _ h) (x1.but.trans' (But.of_same s2))
theorem Ud (g:Good ww)(ha:a<ww.1)(hb:b<ww.1)(ne:a≠b)(x:RH K ww v u4 u6 H0 p a b H){lv:Addr}{vs:List V}{m:List Rat}(hv:H lv=some (.lst vs))(lvp:lv≠p)(lv0:H0 lv=none)(is:Iss K H vs (m.map iO))(hm:m.length=ww.1)(bn:∀ x∈m,Bnd x){x5 x7 x9 x10 x11:iA V}
  (q:∀ H',(∃ n',H' p=some (.lst [.int n']))->But p H0 H'->D.rt (.bl true) H'):jO (rSt K) (rT K) D (sgR p v a b u4 x5 u6 x7 (some (.ref lv)) x9 x10 x11) H:=by
 have vl:vs.length=ww.1:=by rw[is.length,ag,hm]
 refine⟨by show 2<=sizeLine;decide,λ t1 h1=>⟨by show 2<=sizeLine;decide,λ t0 h0=>⟨by show 2<=sizeLine;decide,λ t2 h2=>?_⟩⟩⟩;have s1:iZ H (upd H t1 (.tup [V.int 1,V.int 1])):=iZ.upd h1;have e1:upd H t1 (.tup [V.int 1,V.int 1]) t1=some (.tup [V.int 1,V.int 1]):=iU;generalize upd H t1 (.tup [V.int 1,V.int 1])=H1 at s1 e1 h0 h2;have s2:iZ H1 (upd H1 t0 (.tup [V.int 0,V.int 1])):=iZ.upd h0;have e2:upd H1 t0 (.tup [V.int 0,V.int 1]) t0=some (.tup [V.int 0,V.int 1]):=iU;generalize upd H1 t0 (.tup [V.int 0,V.int 1])=H2 at s2 e2 h2;have s3:iZ H2 (upd H2 t2 (.tup [.ref t1,.ref t0])):=iZ.upd h2;have e3:upd H2 t2 (.tup [.ref t1,.ref t0]) t2=some (.tup [.ref t1,.ref t0]):=iU;generalize upd H2 t2 (.tup [.ref t1,.ref t0])=H3 at s3 e3;have s13:=s2.trans s3;have i1:Is K H3 (.ref t1) (iO 1):=.tup (SqT.of (s13 _ _ e1)) (.cons (.int _) (.cons (.int _) .nil));have i0:Is K H3 (.ref t0) (iO 0):=.tup (SqT.of (s3 _ _ e2)) (.cons (.int _) (.cons (.int _) .nil));have s03:=s1.trans s13;have x3:=x.ext s03;have hv3:=s03 _ _ hv;have is3:=is.ext s03;refine⟨t2,_,rfl,SqT.of e3,rfl,_,_,rfl,_,rfl,_,rfl,lv,vs,a,a,rfl,rfl,hv3,by rw[vl];exact oD ha,_,_,rfl,_,rfl,_,rfl,lv,_,b,b,rfl,rfl,iU,by rw[gy,vl];exact oD hb,rfl,?_⟩;have mu:Mut (H3 lv):=by rw[hv3];trivial
 have tx:jY H3 (upd (upd H3 lv (.lst (vs.set a (.ref t1)))) lv (.lst ((vs.set a (.ref t1)).set b (.ref t0)))):=(jY.upd mu).trans (jY.upd (by rw[iU];trivial));have x4:=x3.text tx ((x3.but.new lv0).new lv0) (x3.hp.imp λ _ h=>by rw[ja (aX lvp),ja (aX lvp)];exact h);have is4:Iss K H3 ((vs.set a (.ref t1)).set b (.ref t0)) ((lvS m a b).map iO):=by unfold lvS;rw[List.map_set,List.map_set];exact Iss.set i0 b (Iss.set i1 a is3)
 exact Ry g ha hb ne x4 iU lvp (is4.text tx (imL _)) (N7 g ha hb ne hm bn) q
theorem VH {σ:L2.St}{Q:VK}(h0:σ[1]?=some (some v))(i0:Is K H v (i8 ww))(q:Q (.int ww.1) H):tOp (JB K) (jj 1) (tC (V.int 0)) σ H Q:=by obtain⟨r,xs,rfl,hr3,is3⟩:=i0.jy;obtain⟨u0,u1,rfl,j0,j1⟩:=is3.two;have:=j0.int_inv;subst this;exact⟨_,h0,r,_,_,_,rfl,rfl,hr3,rfl,q⟩
theorem Ue (g:Good ww)(ha:a<ww.1)(hb:b<ww.1)(ne:a≠b)(x:RH K ww v u4 u6 H0 p a b H){x5 x7 x8 x9 x10 x11:iA V}
  (q:∀ H',(∃ n',H' p=some (.lst [.int n']))->But p H0 H'->D.rt (.bl true) H'):jO (rLv K) (jO (rSt K) (rT K)) D (sgR p v a b u4 x5 u6 x7 x8 x9 x10 x11) H:=by
 have h8:=g.km;refine VH rfl x.iw ⟨_,rfl,by lia,by lia,λ i mm ys H5=>mm=ww.1-i/\i<=ww.1/\RH K ww v u4 u6 H0 p a b H5/\∃ m:List Rat,m.length=i/\Iss K H5 ys (m.map iO)/\∀ x∈m,Bnd x,⟨_,rfl,bg _,x,[],rfl,.nil,λ x hx=>by cases hx⟩,?_⟩;rintro i mm ys H5 ⟨rfl,hi,x5',m,hm,is,bn⟩;obtain⟨n,hp⟩:=x5'.hp;rcases hG i ww.1 with hlt | hge
 ·right
  refine⟨by show i<(ww.1:Int).toNat;lia,by rw[is.length,ag,sizeLine_eq];lia,λ xv H' ⟨e1,e2⟩=>?_⟩;subst e1;dsimp only [jt,E8];refine EV ⟨_,rfl,p,n,rfl,hp,λ u H1 n1 y iu yn yd hp1 b1=>⟨ww.1-(i+1),by lia,rfl,hlt,x5'.by b1 ⟨n1,hp1⟩,m++[y],by rw[aT,bF,hm],?_,?_⟩⟩
  ·rw[a7];exact(is.text (b1.text hp) (imL m)).snoc iu
  ·intro z hz
   rcases bG.mp hz with h | h
   ·exact bn z h
   ·rw[bA.mp h];exact⟨yn,yd⟩
 ·left
  have e:i=ww.1:=by lia
  subst e;refine⟨by show(ww.1:Int).toNat<=ww.1;lia,λ lv hlv=>?_⟩;have lvp:lv≠p:=λ z=>by subst z;rw[hp]at hlv;cases hlv
  have s:iZ H5 (upd H5 lv (.lst ys)):=iZ.upd hlv;exact Ud g ha hb ne (x5'.ext s) iU lvp (x5'.but.none hlv lvp) (is.ext s) hm bn q
theorem Ug (g:Good ww){n:Int}(ha:a<ww.1)(hb:b<ww.1)(ne:a≠b)(iw:Is K H v (i8 ww))(hp:H p=some (.lst [.int n])){x4 x5 x6 x7 x8 x9 x10 x11:iA V}
  (q:∀ H',(∃ n',H' p=some (.lst [.int n']))->But p H H'->D.rt (.bl true) H'):rA K D [some (.ref p),some v,some (iV a),some (iV b),x4,x5,x6,x7,x8,x9,x10,x11] H:=by
 refine⟨_,_,stS (.opq _) (stS iw (stS (.int _) (stS (.int _) (stN (stN (stN (stN (stN (stN (stN (stN L2.stE))))))))))),g.T6 ha hb ne ..,λ H1 s1 σ1 S1=>⟨_,_,S1,g.T7 ha hb ne ..,λ H2 s2 σ2 S2=>⟨_,_,S2,g.T8 ha hb ne ..,λ H3 s3 σ3 S3=>⟨_,_,S3,g.T9 ha hb ne ..,λ H4 s4 σ4 S4=>⟨_,_,S4,g.T_ ha hb ne ..,λ H5 s5 σ5 S5=>⟨_,_,S5,g.Ua ha hb ne ..,λ H6 s6 σ6 S6=>⟨_,_,S6,g.Ub ha hb ne ..,λ H7 s7 σ7 S7=>?_⟩⟩⟩⟩⟩⟩⟩;have s:=((((((s1.trans s2).trans s3).trans s4).trans s5).trans s6).trans s7);clear S1 S2 S3 S4 S5 S6;obtain⟨y0,q0,rfl,i0,R0⟩:=S7.inv;obtain⟨y1,q1,rfl,i1,R1⟩:=R0.inv;obtain⟨y2,q2,rfl,i2,R2⟩:=R1.inv;obtain⟨y3,q3,rfl,i3,R3⟩:=R2.inv;obtain⟨y4,q4,rfl,i4,R4⟩:=R3.inv;obtain⟨y5,q5,rfl,i5,R5⟩:=R4.inv;obtain⟨y6,q6,rfl,i6,R6⟩:=R5.inv;obtain⟨y7,q7,rfl,i7,R7⟩:=R6.inv;obtain⟨y8,y9,y10,y11,rfl⟩:=R7.VF;have:=i0.xm;subst this;have:=i2.int_inv;subst this;have:=i3.int_inv;subst this;exact Ue g ha hb ne ⟨But.of_same s,⟨n,s _ _ hp⟩,i1,i4,i6⟩ q
def HK (K:iF):Sp:=λ vs H Q _=>∃ (p:Addr) (n:Int) (v:V) (ww:Web) (a b:Nat),vs=[.ref p,v,iV a,iV b]/\Good ww/\a<ww.1/\b<ww.1/\a≠b/\Is K H v (i8 ww)/\H p=some (.lst [.int n]) /\
 ∀ H',(∃ n',H' p=some (.lst [.int n']))->But p H H'->Q (.bl true) H'
theorem L9 (T:Txt K mg):OkT P w base T.qc 10 (HK K):=by
 refine T.qc.F.ok kr (λ vs H Q E h=>?_) (λ cdv A outer s H vs Q E hr h=>?_)
 ·obtain⟨p,n,v,ww,a,b,rfl,_⟩:=h;rfl
 ·obtain⟨p,n,v,ww,a,b,rfl,hg,ha,hb,ne,iw,hp,q⟩:=h
  refine⟨rA K,(iW (k8 (i:=4) kr.nd (dC T.kF (lF T) hr (iK (dv 1) (iK (dv 2) (iK (dv 3) iS))))) (iW (k8 (i:=5) kr.nd (dC T.mX (qg T) hr (iK (jA (dC T.xD (Eu T) hr (iK (dv 1) (iK (dv 3) iS))) (dv 2)) (iK (jA (dC T.xD (Eu T) hr (iK (dv 1) (iK (dv 2) iS))) (dv 3)) iS)))) (iW (lH (w9 (oy (jK (r9 (jh hr)) (dv 5) (dC T.mE (o3 T) hr (iK (nT (iK (kC lL ji (jx qK T.nD bT (iK (jA (dv 1) ji) iS))) (iK ji iS))) (iK (dv 4) iS)))) (nc (jK (r9 (jh hr)) (dv 4) (dC T.kF (lF T) hr (iK (dv 1) (iK (dv 3) (iK (dv 2) iS)))))))) (i9 (jm qG)) jR) (iW (k8 (i:=6) kr.nd (dC T.Cd (HA T) hr (iK (dv 1) (iK (dv 2) (iK (dv 3) iS))))) (iW (lH (w9 (oy (jK Kl (dC T.mW (qi T) hr (iK (dv 1) (iK (dv 2) (iK (dv 3) (iK (dv 6) iS))))) qG) (oy (jK (r9 (jh hr)) (dC T.zF (Ci T) hr (iK (dv 1) (iK (dv 2) (iK (dv 3) (iK (dv 6) iS))))) (dv 4)) (nc (jK (r9 (jh hr)) (jA (dC T.pF (tH T) hr (iK (dv 1) (iK (dv 2) (iK (dv 3) iS)))) (dv 2)) (dv 4)))))) (i9 (jm qG)) jR) (iW (k8 (i:=7) kr.nd (dC T.rz (Cm T) hr (iK (dv 1) (iK (dv 2) (iK (dv 3) iS))))) (iW (lH (w9 (oy (jK (r9 (jh hr)) (dC T.xE (Ew T) hr (iK (dv 1) (iK (dv 2) (iK (dv 3) (iK (dv 7) iS))))) (nT (iK (dv 4) (iK (dv 4) iS)))) (nc (jK Kl (dC T.qa (wU T) hr (iK (dv 1) (iK (dv 2) (iK (dv 3) (iK (dv 7) iS))))) qG)))) (i9 (jm qG)) jR) (iW (JV (i:=8) (g:=jt 0) (te:=kD (Co K) [] E0 (i_ (jj 1) jG)) kr.nd rfl (Or.inl rfl) rfl (csc ["_law_place"] ["_law_pot_here"] [0]) (lu rfl T.kq (iR (kW pJ (pv 1) jd (λ _ _=>rfl)) jb)) (λ _ _ _ _=>pgo 0) jX (λ _ _ _ _=>Bk) (λ _ _ _ _=>pC T.lS (uZ T) hr (iR (pv 1) jb)))
   (iW (m6 (pI (iR (pI (iR jd (iR jd jb))) (iR (pI (iR jd (iR jd jb))) jb))) (jS rfl (jc (oO (pv 8) (pv 2) set_list) (jc (oO (pv 8) (pv 3) set_list) jH))))
   (iW (jC (i:=9) kr.nd rfl (Or.inl rfl) (pC T.oY (IZ T) hr (iR (pv 0) (iR (pv 1) (iR (pv 2) (iR (pv 3) jb))))))
   (show PSs _ _ (tDS K rB) from(je (oQ (dC T.xE (Ew T) hr (iK (dv 1) (iK (dv 2) (iK (dv 3) (iK (nT (iK (dv 9) (iK (o7 uj T.lT boot_tuple (iK (dv 8) iS)) iS))) iS))))) (jS rfl (jc (pgo 10) (jc (pgo 11) jH))) j9) (je (lH (w9 (oy (kH (kI (dC T.lj (nA T) hr (iK (dv 4) (iK (dv 10) iS))))) (oy (kH (kI (dC T.lj (nA T) hr (iK (dv 11) (iK (dv 4) iS))))) (nc (jK (r9 (jh hr)) (dv 11) (dC T.zF (Ci T) hr (iK (dv 1) (iK (dv 2) (iK (dv 3) (iK (dv 9) iS)))))))))) (i9 (jm qG)) jR) (i9 (jm (US (qH (ug (jh hr)) (dv 9) (dv 6)) (wa (qH (r9 (jh hr)) (dv 11) (dv 4))))))))))))))))))),?_⟩
  exact Ug hg ha hb ne iw hp q
end
end K44
namespace L2
open PySem PySem.Spec PyProof.Rows Zp Qs
def hT1:DE->iA RD:=(ng (gB (iY (dIn true) (iN 7) (kL (iL (iN 5) (iL (iN 6) iQ))))) (ng (kX (gTr (iT 2 kB (iL (iT 2 l_ (iL (iT 3 kn (iL (iN 3) (iL (iN 5) (iL (iN 7) iQ)))) (iL (iT 3 kn (iL (iN 3) (iL (iN 7) (iL (iN 6) iQ)))) iQ))) (iL (iT 3 kn (iL (iN 3) (iL (iN 5) (iL (iN 6) iQ)))) iQ))))) (jJ (gC (.bl false))) kT) kT)
def hT2:DE->iA RD:=(ng (gB (iY mv (iT 3 kn (iL (iN 4) (iL (iN 5) (iL (iN 6) iQ)))) (kL (iL (iT 3 xx (iL (iN 4) (iL (iN 5) (iL (iN 6) iQ)))) (iL (gC (.int 1)) iQ))))) (jJ (gC (.bl false))) kT)
theorem Good.Rz {w:Web}(g:Good w){a b t:Nat}(ha:a<w.1)(hb:b<w.1)(ne:a≠b)(ht:t<w.1)(x0 x1 x2 x4:iA Dt):hT1 [x0,x1,x2,some (i8 w),x4,some (iM a),some (iM b),some (iM t)]=some (.nx [x0,x1,x2,some (i8 w),x4,some (iM a),some (iM b),some (iM t)]):=by
 have c0:dIn true (iM t) (.tup [iM a,iM b])=some (.bl (!(a==t || b==t))):=by show some (Dt.bl (!(((a:Int)==(t:Int)) || (((b:Int)==(t:Int)) || false))))=_;rw[kN,kN,Bool.or_false]
 by_cases c:a=t\/b=t
 ·have e:(!(a==t || b==t))=false:=by rcases c with rfl | rfl<;>simp
  rw[e]at c0;generalize i8 w=ww at *;generalize iM a=na at *;generalize iM b=nb at *;generalize iM t=nt at *;simp[hT1,c0]
 ·have na:a≠t:=λ z=>c (.inl z)
  have nb:b≠t:=λ z=>c (.inr z);have e:(!(a==t || b==t))=true:=by simp[na,nb]
  rw[e]at c0;have c1:=AX g ha ht na;have c2:=AX g ht hb (aX nb);have c3:=AX g ha hb ne;have s1:sm (hiQ w a t):=g.zj ha ht a;have s2:sm (hiQ w t b):=g.zj ht hb t;have s3:sm (hiQ w a b):=g.zj ha hb a;have c4:=L7 s1 s2;have s4:sm (hiQ w a t+hiQ w t b):=by
   obtain⟨D,h0,h1,h2⟩:=g.Hk ha ht;obtain⟨E,k0,k1,k2⟩:=g.Hk ht hb;have d1:=Hf E k0 (h2 a);have d2:=Hf D h0 (k2 t);rw[Nat.mul_comm E D]at d2;have hN:2 ^ 200*E+2 ^ 200*D<2 ^ 1900:=by
    have a1:2 ^ 200*E<=2 ^ 200*2 ^ 200:=dX _ (by lia);have a2:2 ^ 200*D<=2 ^ 200*2 ^ 200:=dX _ (by lia);have a3:(2 ^ 200*2 ^ 200+2 ^ 200*2 ^ 200:Nat)<2 ^ 1900:=by decide +kernel
    lia
   have hD:D*E<2 ^ 1900:=by
    have a1:D*E<=2 ^ 200*2 ^ 200:=cE (by lia) (by lia);have a3:(2 ^ 200*2 ^ 200:Nat)<2 ^ 1900:=by decide +kernel
    lia
   exact sC (Li d1 d2) (fk h0 k0) hD hN
  have c5:=Lx s4 s3;rw[decide_eq_true (g.QD ha hb ht ne na (aX nb))]at c5;generalize iO (hiQ w a t+hiQ w t b)=q4 at *;generalize iO (hiQ w a t)=q1 at *;generalize iO (hiQ w t b)=q2 at *;generalize iO (hiQ w a b)=q3 at *;generalize i8 w=ww at *;generalize iM a=na' at *;generalize iM b=nb' at *;generalize iM t=nt at *;simp[hT1,c0,c1,c2,c3,c4,c5]
theorem Good.RA {w:Web}(g:Good w)(tr:w.2.length+1=w.1){a b:Nat}(ha:a<w.1)(hb:b<w.1)(ne:a≠b)(x0 x1 x2 x3 x7:iA Dt):hT2 [x0,x1,x2,x3,some (i8 w),some (iM a),some (iM b),x7]=some (.nx [x0,x1,x2,x3,some (i8 w),some (iM a),some (iM b),x7]):=by
 have c1:=AX g ha hb ne;rw[g.Nk tr ha hb]at c1;have c2:xx [i8 w,iM a,iM b]=some (iM (ds w.2 a b)):=by show(dW (i8 w)).bind (λ w=>(ju (iM a)).bind λ a=>(ju (iM b)).bind λ b=>if a<w.1/\b<w.1 then some (iM (ds w.2 a b)) else none)=_;rw[kf g,jk,jk,ae,ae,ae,af ⟨ha,hb⟩]
 have n1:=IC (ds w.2 a b:Rat) (ds w.2 a b:Rat);rw[decide_eq_true rfl]at n1;have e:iO (ds w.2 a b:Rat)=.tup [iM (ds w.2 a b),.int 1]:=rfl;rw[e]at n1 c1;generalize iM (ds w.2 a b)=nd at *;generalize i8 w=ww at *;generalize iM a=na at *;generalize iM b=nb at *;simp[hT2,c1,c2,n1]
end L2
namespace K44
open PySem PySem.Spec PyProof.Rows L2 Zp
section
variable {P:Program}{w:World}{K:iF}{mg:iq}{base:Heap}
def HL (K:iF):Sp:=λ vs H Q _=>∃ (a:Addr) (ns:List Int),vs=[.ref a]/\SqL K H a (ns.map V.int)/\ns.length<=63/\∀ H',Q (.bl true) H'
def tk (K:iF)(j i:Nat):TS:=kP (kD nz [] E0 (i_ (jj 2) (i_ (tOp (JB K) (jj j) (tC (V.int 0))) jG))) (jt i)
def tw (K:iF)(j:Nat):TS:=kP (kD (O5 K) [] E0 (i_ (jj 2) (i_ (jj j) jG))) (wW K 2 (lG (jt 5) (lG (jt 6) wV)))
def tTv (K:iF)(t:TE):TT:=λ σ H Q=>t σ H λ x H1=>∃ k,Jw K x H1 k/\Q k H1
def tr (K:iF):TS:=HR (RJ (tTv K (kD (HK K) [] E0 (i_ (jj 2) (i_ (jj 3) (i_ (jj 5) (i_ (jj 6) jG))))))) (zP (tC (V.bl false))) Ai
def l6 (K:iF):TS:=jO (tk K 3 7) (jO (tDS K hT1) (jO (tw K 4) (tDS K hT2)))
def l5 (K:iF):TS:=jO (tw K 3) (jO (tr K) (l6 K))
def wb (K:iF)(th:Int)(i:Nat):TS:=kP (kD (O4 K) [] E0 (i_ (jj 2) (i_ (tC (V.int 8)) (i_ (tC (V.int th)) jG)))) (jt i)
def lB (K:iF):TS:=jO (kP (kD O2 [] E0 (i_ (kD (LN K) [] E0 (i_ (jj 0) (i_ (jj 1) jG))) jG)) (jt 2)) (jO (wb K 1 3) (jO (wb K 0 4) (l5 K)))
def lA (K:iF):TS:=jO (wX (vX (i_ (tCB Q6 (i_ (tC (V.int 1)) (i_ (tCB Q5 (i_ (tCB (NO K) (i_ (jj 0) jG)) (i_ (tC (V.int 4)) jG))) jG))) jG)) (jt 1) (lB K)) (zP (tC (V.bl true)))
theorem Uh {D:Ends}{σ:L2.St}{H:Hp}{p:Addr}{i j:Nat}{v:V}{ww:Web}{n:Int}(hg:Good ww)(h2:σ[2]?=some (some (.ref p)))(hj:σ[j]?=some (some v))(iw:Is K H v (i8 ww))(hp:H p=some (.lst [.int n]))
  (h:∀ (a:Nat) (n':Int),a<ww.1->D.nx (σ.set i (some (iV a))) (upd H p (.lst [.int n']))):tk K j i D σ H:=by
 have wp:0<ww.1:=by have:=hg.two;lia
 have w8:=hg.km;obtain⟨r,xs,hv,hr3,is3⟩:=iw.jy;obtain⟨v0,v1,hxs,j0,j1⟩:=is3.two;have hv0:=j0.int_inv;refine⟨_,h2,_,hj,r,_,_,v0,hv,rfl,hr3,by rw[hxs];rfl,p,n,ww.1,by rw[hv0];rfl,hp,by lia,by lia,?_⟩;obtain⟨a,ha,am⟩:=IW n wp;rw[ha];exact h a _ am
theorem But.same {p:Addr}{H0 H H':Hp}(b:But p H H')(s:iZ H0 H)(n:H0 p=Option.none):iZ H0 H':=λ c o e=>b c o (s c o e) (jn e n)
abbrev Nx (D:Ends)(H:Hp)(a0:Addr):Prop:=∀ σ' H',σ'.length=8->σ'[0]?=some (some (.ref a0))->iZ H H'->D.nx σ' H'
theorem Ui {D:Ends}{H H1:Hp}{a0 p:Addr}{i a c:Nat}{vw vt:V}{ww wt:Web}{n:Int}{x7:iA V}(hg:Good ww)(gt:Good wt)(tr:wt.2.length+1=wt.1)(ha:a<ww.1)(hc:c<ww.1)(ne:a≠c)(i3:Is K H1 vw (i8 ww))(i4:Is K H1 vt (i8 wt))(sm:iZ H H1)(p0:H p=none)(hp:H1 p=some (.lst [.int n]))
  (h:Nx D H a0):l6 K D [some (.ref a0),some (iV i),some (.ref p),some vw,some vt,some (iV a),some (iV c),x7] H1:=by
 refine Uh hg rfl rfl i3 hp λ t n1 ht=>?_;have j3:=i3.text (jY.upd (o:=.lst [.int n1]) (by rw[hp];trivial)) (imW ww);have j4:=i4.text (jY.upd (o:=.lst [.int n1]) (by rw[hp];trivial)) (imW wt);have s5:iZ H (upd H1 p (.lst [.int n1])):=kO sm p0;have hp5:upd H1 p (.lst [.int n1]) p=some (.lst [.int n1]):=iU;generalize upd H1 p (.lst [.int n1])=H5 at j3 j4 s5 hp5;refine⟨_,_,stS (.opq _) (stN (stS (.opq _) (stS j3 (stS j4 (stS (.int _) (stS (.int _) (stS (.int _) stE))))))),hg.Rz ha hc ne ht ..,λ H6 s6 σ6 S6=>?_⟩;obtain⟨y0,q0,rfl,k0,R0⟩:=S6.inv;obtain⟨y1,q1,rfl,R1⟩:=R0.L8;obtain⟨y2,q2,rfl,k2,R2⟩:=R1.inv;obtain⟨y3,q3,rfl,k3,R3⟩:=R2.inv;obtain⟨y4,q4,rfl,k4,R4⟩:=R3.inv;obtain⟨y5,q5,rfl,k5,R5⟩:=R4.inv;obtain⟨y6,q6,rfl,k6,R6⟩:=R5.inv;obtain⟨y7,q7,rfl,k7,R7⟩:=R6.inv;have e7:q7=[]:=gr R7.len;subst e7;have:=k0.xm;subst this;have:=k2.xm;subst this;clear S6 R0 R1 R2 R3 R4 R5 R6 R7;have hp6:=s6 _ _ hp5;refine⟨_,rfl,_,rfl,p,n1,y4,wt,rfl,gt,k4,hp6,λ t' b d n3 H7 am cm ne' hp7 b7 ht'=>?_⟩;refine⟨t',_,rfl,SqT.of ht',rfl,_,_,rfl,_,_,rfl,rfl,?_⟩;refine⟨_,_,stS (.opq _) (stN (stN (stN (stS (k4.text (b7.text hp6) (imW wt)) (stS (.int _) (stS (.int _) (stN stE))))))),gt.RA tr am cm ne' ..,λ H8 s8 σ8 S8=>h σ8 H8 S8.len ?_ ((b7.same (s5.trans s6) p0).trans s8)⟩;obtain⟨v7,e7,i7⟩:=S8.at_ 0 _ rfl;rw[e7,i7.xm]
theorem Uj {D:Ends}{H H1:Hp}{a0 p:Addr}{i:Nat}{vw vt:V}{ww wt:Web}{n:Int}{x5 x6 x7:iA V}(hg:Good ww)(gt:Good wt)(tr:wt.2.length+1=wt.1)(i3:Is K H1 vw (i8 ww))(i4:Is K H1 vt (i8 wt))(sm:iZ H H1)(p0:H p=none)(hp:H1 p=some (.lst [.int n]))
  (h:Nx D H a0):l5 K D [some (.ref a0),some (iV i),some (.ref p),some vw,some vt,x5,x6,x7] H1:=by
 refine⟨_,rfl,_,rfl,p,n,vw,ww,rfl,hg,i3,hp,λ t a c n3 H7 am cm ne hp7 b7 ht=>?_⟩;have t7:=b7.text hp;have m3:=i3.text t7 (imW ww);have m4:=i4.text t7 (imW wt);have s7:=b7.same sm p0;refine⟨t,_,rfl,SqT.of ht,rfl,_,_,rfl,_,_,rfl,rfl,?_⟩;refine⟨_,rfl,_,rfl,_,rfl,_,rfl,p,n3,vw,ww,a,c,rfl,hg,am,cm,ne,m3,hp7,λ H8 hp8 b8=>⟨true,rfl,?_⟩⟩;obtain⟨n8,hp8⟩:=hp8;have t8:=b8.text hp7;refine JI ?_;exact Ui hg gt tr am cm ne (m3.text t8 (imW ww)) (m4.text t8 (imW wt)) (b8.same s7 p0) p0 hp8 h
theorem Uk {D:Ends}{H H0:Hp}{a0:Addr}{ns:List Int}{i:Nat}{x2 x3 x4 x5 x6 x7:iA V}(hS:SqL K H a0 (ns.map V.int))(h63:ns.length<=63)(sm0:iZ H H0)
  (h:Nx D H a0):lB K D [some (.ref a0),some (iV i),x2,x3,x4,x5,x6,x7] H0:=by
 refine⟨_,rfl,_,rfl,a0,ns,i,rfl,sm0.seq hS,h63,λ c=>⟨c,rfl,λ p n hp=>?_⟩⟩;have p0:H p=none:=sm0.free hp;refine⟨_,rfl,p,n,1,rfl,ak _,iU,λ v H1 n1 ww hg _ iw hp1 but1=>?_⟩;have sm1:iZ H H1:=λ b o e=>but1 b o (by rw[ja (jn e p0)];exact sm0 b o e) (jn e p0);refine⟨_,rfl,p,n1,0,rfl,bg _,hp1,λ v2 H2 n2 wt gt htr it hp2 but2=>?_⟩;have but2:But p H1 H2:=but2;exact Uj hg gt (htr rfl) (iw.text (but2.text hp1) (imW ww)) it (but2.same sm1 p0) p0 hp2 h
theorem Ul {D:Ends}{H:Hp}{a0:Addr}{ns:List Int}(hS:SqL K H a0 (ns.map V.int))(h63:ns.length<=63)(q:∀ H',D.rt (.bl true) H'):lA K D [some (.ref a0),none,none,none,none,none,none,none] H:=by
 refine⟨_,rfl,a0,_,rfl,.inl hS,_,_,rfl,_,_,rfl,_,rfl,?_,?_,?_⟩
 ·lia
 ·lia
 ·generalize (if (if (4:Int)<((ns.map V.int).length:Int) then (4:Int) else ((ns.map V.int).length:Int))>1 then (if (4:Int)<((ns.map V.int).length:Int) then (4:Int) else ((ns.map V.int).length:Int)) else 1)=N
  refine mJ (lo:=0) (n:=N.toNat) (λ i σ' H'=>σ'.length=8/\σ'[0]?=some (some (.ref a0))/\iZ H H') ⟨rfl,rfl,iZ.refl H⟩ ?_ ?_
  ·rintro i σ' H0 hi ⟨hl,h0,sm0⟩;obtain⟨x0,x1,x2,x3,x4,x5,x6,x7,rfl⟩:=Vv hl;have h0:some x0=some (some (V.ref a0)):=h0;cases h0;rw[Int.zero_add];exact Uk hS h63 sm0 λ σ' H' h1 h2 h3=>⟨h1,h2,h3⟩
  ·rintro σ' H' _;exact q H'
theorem RB (T:Txt K mg):OkT P w base T.Hv 11 (HL K):=by
 refine T.Hv.F.ok zB (λ vs H Q E h=>?_) (λ cdv A outer s H vs Q E hr h=>?_)
 ·obtain⟨a,ns,rfl,_⟩:=h;rfl
 ·obtain⟨a0,ns,rfl,hS,h63,q⟩:=h
  have hr1:lV 1 _:=hr.mono (by decide);have hr2:lV 2 _:=hr.mono (by decide);refine⟨lA K,iW (mI bC rfl (lu rfl T.kq (iR (lK (vi rfl) rfl T.Hz boot_max (iR jd (iR (lK (vj rfl) rfl T.Hy boot_min (iR (lK mf rfl T.nD bT (iR (pv 0) jb)) (iR jd jb))) jb))) jb)) (pgo 1)
   (iW (jC (i:=2) zB.nd rfl (Or.inl rfl) (pC T.tE (Q4 T) hr (iR (pC T.oa (NN T) hr (iR (pv 0) (iR (pv 1) jb))) jb)))
   (iW (jC (i:=3) zB.nd rfl (Or.inl rfl) (pC T.og (LO T) hr (iR (pv 2) (iR jd (iR jd jb))))) (iW (jC (i:=4) zB.nd rfl (Or.inl rfl) (pC T.og (LO T) hr (iR (pv 2) (iR jd (iR jd jb))))) (iW (m6 (pC T.qb (LR T) hr (iR (pv 2) (iR (pv 3) jb))) (jS rfl (jc (pgo 5) (jc (pgo 6) jH))))
   (iW (vW (Jo (xO (pC T.qc (L9 T) hr (iR (pv 2) (iR (pv 3) (iR (pv 5) (iR (pv 6) jb))))) (λ _=>rfl))) (jw (lI Jl)) ou)
   (iW (jC (i:=7) zB.nd rfl (Or.inl rfl) (pC T.jv (lU T) hr (iR (pv 2) (iR (kW pJ (pv 3) jd (λ _ _=>rfl)) jb)))) (iW (lH (jK (Nl (jh hr)) (dv 7) (nT (iK (dv 5) (iK (dv 6) iS)))) (i9 (lH (kH (kI (dC T.lj (nA T) hr (iK (dC T.mX (qg T) hr (iK (dC T.kF (lF T) hr (iK (dv 3) (iK (dv 5) (iK (dv 7) iS)))) (iK (dC T.kF (lF T) hr (iK (dv 3) (iK (dv 7) (iK (dv 6) iS)))) iS))) (iK (dC T.kF (lF T) hr (iK (dv 3) (iK (dv 5) (iK (dv 6) iS)))) iS))))) (i9 (jm qG)) jR)) jR) (iW (m6 (pC T.qb (LR T) hr (iR (pv 2) (iR (pv 4) jb))) (jS rfl (jc (pgo 5) (jc (pgo 6) jH)))) (jw (lH (jK (r9 (jh hr)) (dC T.kF (lF T) hr (iK (dv 4) (iK (dv 5) (iK (dv 6) iS)))) (nT (iK (dC T.Cc (LP T) hr (iK (dv 4) (iK (dv 5) (iK (dv 6) iS)))) (iK ji iS)))) (i9 (jm qG)) jR))))))))))) (jw (lI Jl)),?_⟩
  exact Ul hS h63 q
end
end K44
end
namespace K44
open PySem PySem.Spec PyProof.Rows L2 Zp
theorem all_mk {l:PySem.W.OpenLaw}{w:World}{K:iF}{mg:iq}{fa:Addr}(T:Txt K mg)(hfa:mg "law"=some (.ref fa)):∃ fd:FuncData,(∀ (s:iH) (v:iG),BindsTo s fd ⟨[v],[]⟩ [("_law_script",v)])/\∀ base:Heap,K.In base->base.Ns mainGlobals mg->vk l.prog w K mg base CX0 11 fa fd ["_law_script"] (HL K):=by have e:=hfa.symm.trans T.Hv.m;cases e;exact⟨_,λ s v=>.of_eq (T.Hv.bb [v] rfl),λ _ _ _=>RB T⟩
theorem walk {l:PySem.W.OpenLaw}{q:Program}{loose:List Str}{XP:(Str->iA iG)->Heap->Prop}{YP:World->Heap->Prop}{d:DefRec}{K:Params->iF}(hn:l.most=some 63)(hdf:d.params.defaults=[])
  (hY:∀ (w:World) (h:Heap),YP w h->(K w.params).In h)
  (F:∀ (w:World) (mg:iq) (fa:Addr) (h:Heap),(K w.params).In h->h.Ns mainGlobals mg->mg d.name=some (.ref fa) ->
   ∃ fd:FuncData,(∀ (s:iH) (u:iG),BindsTo s fd ⟨[u],[]⟩ [("_law_script",u)])/\∀ base:Heap,(K w.params).In base->base.Ns mainGlobals mg->vk l.prog w (K w.params) mg base CX0 11 fa fd ["_law_script"] (HL (K w.params))) :
  PySem.W.WalkO q loose XP YP l.row.toRowW d [] (λ f vs=>PySem.call f vs) :=
 L2.Gp (n:=63) (k:=11) (x:="_law_script") (CX:=λ _=>CX0) (sp:=λ w=>HL (K w.params)) hn (by decide) hdf ⟨rfl,by decide,by decide⟩ hY F (λ _ _ a ns hl _ hS=>⟨a,ns,rfl,hS,hl,λ _=>rfl⟩) λ _ _ _ _ _ z=>z
end K44
end Internal
open Internal
namespace PySem.W.Fast
theorem tw5348351489827071920:True:=trivial
theorem tw6611910844759276750:True:=trivial
theorem tw14949260076774410457:True:=trivial
theorem tw11672219169298314492:True:=trivial
theorem tw16760115510978143397:True:=trivial
theorem tw3402536231772092031:True:=trivial
theorem tw15569983707105425469:True:=trivial
theorem tw9123774292659390119:True:=trivial
theorem tw7720319985120674317:True:=trivial
theorem tw232909180653691088:True:=trivial
theorem tw14282501779647890147:True:=trivial
theorem tw4063024327970316772:True:=trivial
theorem tw12903636529251443137:True:=trivial
theorem tw3701506992243491228:True:=trivial
theorem tw14553202941758270820:True:=trivial
theorem tw13837762644458178114:True:=trivial
theorem tw9822575517386033451:True:=trivial
theorem tw17620492767573696756:True:=trivial
theorem tw1404038701959331338:True:=trivial
theorem tw14167968340246583758:True:=trivial
theorem tw12214717741095018163:True:=trivial
theorem tw5106346442962953015:True:=trivial
theorem tw17089286428674097821:True:=trivial
theorem tw11762158539579479381:True:=trivial
theorem tw7647696304220213837:True:=trivial
theorem tw16300851561017798170:True:=trivial
theorem tw1852092485404163131:True:=trivial
theorem tw14629476321844428163:True:=trivial
theorem tw1896807592149676351:True:=trivial
theorem tw17549055788380485261:True:=trivial
theorem tw8126213059701184085:True:=trivial
theorem tw11355919888178612577:True:=trivial
theorem tw2932278532184384888:True:=trivial
theorem tw4899740595800282134:True:=trivial
theorem tw8045441815800830988:True:=trivial
theorem tw2759440282067642884:True:=trivial
theorem tw15879639940267979115:True:=trivial
theorem tw6201257401948763802:True:=trivial
theorem tw15263696251658408970:True:=trivial
theorem tw466504788814660308:True:=trivial
theorem tw4007867452038027913:True:=trivial
theorem tw14152894714775105379:True:=trivial
theorem tw7104724626894421040:True:=trivial
theorem tw6189952448773968081:True:=trivial
theorem tw10876266431955757123:True:=trivial
theorem tw5165120895220875917:True:=trivial
theorem tw16336483336666980197:True:=trivial
theorem tw18403232407325536965:True:=trivial
theorem tw10834500949815945228:True:=trivial
theorem tw2977807086212783886:True:=trivial
theorem tw12030008529570894523:True:=trivial
theorem tw9912215398026480002:True:=trivial
theorem tw8921363310954175736:True:=trivial
theorem tw9981182629099899873:True:=trivial
theorem tw11058797289732761584:True:=trivial
theorem tw15107532415878564749:True:=trivial
theorem tw3624828288918012426:True:=trivial
theorem tw2118669562401267839:True:=trivial
theorem tw16546232247786710865:True:=trivial
theorem tw4423219153579894611:True:=trivial
theorem tw1115487200672037111:True:=trivial
theorem tw4636031919010323048:True:=trivial
theorem tw6028066816345247760:True:=trivial
theorem tw5335823280497711167:True:=trivial
end PySem.W.Fast
open PySem PySem.W PyProof.Rows
set_option maxRecDepth 100000 in
set_option maxHeartbeats 0 in
theorem PySem.Challenge.cw_treewalkers_k44_whole_streams_holds : PySem.Challenge.rw_treewalkers_k44_whole_streams.Holds := by
 w_on;o_law;k_head;(case hw=>w_witness2)
 k_fill
 refine K44.walk (l:=PySem.Challenge.rw_treewalkers_k44_whole_streams) rfl rfl (λ w h Y=>PySem.W.kIn_of Y) ?F
 case F =>
  intro w mg fa h KX G hmg
  refine' K44.all_mk ⟨L2.fnT KX G ?_ ?_ ?_ ?_,L2.fnT KX G ?_ ?_ ?_ ?_,L2.fnT KX G ?_ ?_ ?_ ?_,L2.fnT KX G ?_ ?_ ?_ ?_,L2.fnT KX G ?_ ?_ ?_ ?_,L2.fnT KX G ?_ ?_ ?_ ?_,L2.fnT KX G ?_ ?_ ?_ ?_,L2.fnT KX G ?_ ?_ ?_ ?_,L2.fnT KX G ?_ ?_ ?_ ?_,L2.fnT KX G ?_ ?_ ?_ ?_,L2.fnT KX G ?_ ?_ ?_ ?_,L2.fnT KX G ?_ ?_ ?_ ?_,L2.fnT KX G ?_ ?_ ?_ ?_,L2.fnT KX G ?_ ?_ ?_ ?_,L2.fnT KX G ?_ ?_ ?_ ?_,L2.fnT KX G ?_ ?_ ?_ ?_,L2.fnT KX G ?_ ?_ ?_ ?_,L2.fnT KX G ?_ ?_ ?_ ?_,L2.fnT KX G ?_ ?_ ?_ ?_,L2.fnT KX G ?_ ?_ ?_ ?_,L2.fnT KX G ?_ ?_ ?_ ?_,L2.fnT KX G ?_ ?_ ?_ ?_,L2.fnT KX G ?_ ?_ ?_ ?_,L2.fnT KX G ?_ ?_ ?_ ?_,L2.fnT KX G ?_ ?_ ?_ ?_,L2.fnT KX G ?_ ?_ ?_ ?_,L2.fnT KX G ?_ ?_ ?_ ?_,L2.fnT KX G ?_ ?_ ?_ ?_,L2.fnT KX G ?_ ?_ ?_ ?_,L2.fnT KX G ?_ ?_ ?_ ?_,L2.fnT KX G ?_ ?_ ?_ ?_,L2.fnT KX G ?_ ?_ ?_ ?_,L2.fnT KX G ?_ ?_ ?_ ?_,L2.fnT KX G ?_ ?_ ?_ ?_,L2.fnT KX G ?_ ?_ ?_ ?_,L2.fnT KX G ?_ ?_ ?_ ?_,L2.fnT KX G ?_ ?_ ?_ ?_,L2.fnT KX G ?_ ?_ ?_ ?_,L2.fnT KX G ?_ ?_ ?_ ?_,L2.fnT KX G ?_ ?_ ?_ ?_,L2.fnT KX G ?_ ?_ ?_ ?_,L2.fnT KX G ?_ ?_ ?_ ?_,L2.fnT KX G ?_ ?_ ?_ ?_,L2.fnT KX G ?_ ?_ ?_ ?_,L2.fnT KX G ?_ ?_ ?_ ?_,L2.fnT KX G ?_ ?_ ?_ ?_,L2.fnT KX G ?_ ?_ ?_ ?_,L2.fnT KX G ?_ ?_ ?_ ?_,L2.fnT KX G ?_ ?_ ?_ ?_,L2.fnT KX G ?_ ?_ ?_ ?_,L2.fnT KX G ?_ ?_ ?_ ?_,L2.fnT KX G ?_ ?_ ?_ ?_,L2.fnT KX G ?_ ?_ ?_ ?_,L2.fnT KX G ?_ ?_ ?_ ?_,L2.fnT KX G ?_ ?_ ?_ ?_,L2.fnT KX G ?_ ?_ ?_ ?_,PySem.W.mg_none_of KX G ?_,PySem.W.mg_none_of KX G ?_,PySem.W.mg_none_of KX G ?_,PySem.W.mg_none_of KX G ?_,PySem.W.mg_none_of KX G ?_,PySem.W.mg_none_of KX G ?_,PySem.W.mg_none_of KX G ?_,PySem.W.mg_none_of KX G ?_,PySem.W.mg_none_of KX G ?_,PySem.W.mg_none_of KX G ?_,PySem.W.mg_none_of KX G ?_,PySem.W.mg_none_of KX G ?_,PySem.W.mg_none_of KX G ?_,PySem.W.mg_none_of KX G ?_,PySem.W.mg_none_of KX G ?_,PySem.W.mg_none_of KX G ?_,L2.ctP KX G ?_ ?_,L2.ctP KX G ?_ ?_,L2.ctI KX G ?_,L2.ctI KX G ?_⟩ hmg
  any_goals k_is
