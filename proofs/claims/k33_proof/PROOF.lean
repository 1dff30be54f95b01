import PyProof.Rows.All
import Wide.All
import OpenK.AllK
import Wide.FinOn
import Lean
import PyProof.EqAt
import PyProof.EqKinds
import PyProof.TupleCall
import PyProof.NeKinds
import PyProof.WalkInts
import PyProof.SumWalkG
import KE.IntBitsLaws
import PyProof.FString
import PyProof.StrBlock
import KE.KxWritten
import KE.KxText
import PyProof.SliceStr2
import PySem.Challenge.RW_treewalkers_k33_whole_means
set_option Elab.async false
set_option linter.all false
set_option tactic.hygienic false
set_option maxRecDepth 100000
set_option exponentiation.threshold 10000
set_option maxHeartbeats 4000000
namespace Internal
noncomputable section
abbrev aa:=@Option.bind_some
abbrev ae:=@if_pos
abbrev af:=@if_neg
abbrev ag:=@Nat.le_refl
abbrev ah:=@List.length_map
abbrev ai:=@List.mem_cons_self
abbrev ak:=@List.mem_cons_of_mem
abbrev ao:=@Option.some.inj
abbrev aq:=@Bool.false_ne_true
abbrev ar:=@List.mem_cons
abbrev au:=@PySem.Heap.lt_size
abbrev av:=@PySem.wpAny_bind
abbrev aw:=@PySem.wpAny_pure
abbrev ax:=@List.size_toArray
abbrev ay:=@List.mem_range
abbrev aA:=@List.mem_map
abbrev aB:=@Nat.lt_of_lt_of_le
abbrev aC:=@PySem.Heap.get?_push_of_some
abbrev aD:=@List.getD_eq_getElem?_getD
abbrev aE:=@List.map_congr_left
abbrev aF:=@List.getElem?_eq_getElem
abbrev aG:=@PySem.Heap.get?_push_size
abbrev aH:=@List.Nodup.length_le_of_subset
abbrev aI:=@List.mem_append_right
abbrev aJ:=@Classical.byContradiction
local macro_rules | `(tactic| omega)=>`(tactic| lia)
local macro_rules | `(tactic| trivial)=>`(tactic| first | exact .inl rfl | exact .inr rfl | assumption | exact Or.inl rfl | exact Or.inr (Or.inl rfl) | exact Or.inr (Or.inr rfl) | exact Or.inr rfl)
namespace Qs
noncomputable def S (n:Nat)(f:Nat->Nat):Nat:=((List.range n).map f).sum
theorem kM (n:Nat)(f:Nat->Nat):S (n+1) f=S n f+f n:=by
 unfold S;rw[List.range_succ,List.map_append,List.sum_append];simp
theorem qK {n:Nat}{f g:Nat->Nat}(h:∀ i,i<n->f i=g i):S n f=S n g:=by
 induction n with
 | zero=>rfl
 | succ n ih=>rw[kM,kM,ih λ i hi=>h i (by omega),h n (by omega)]
theorem CS (n:Nat)(f g:Nat->Nat):S n (λ i=>f i+g i)=S n f+S n g:=by
 induction n with
 | zero=>rfl
 | succ n ih=>rw[kM,kM,kM,ih];omega
theorem wU (n:Nat):S n (λ _=>0)=0:=by
 induction n with
 | zero=>rfl
 | succ n ih=>rw[kM,ih]
theorem Hn {n a:Nat}(h:a<n)(f:Nat->Nat):S n (λ i=>if i=a then f i else 0)=f a:=by
 induction n with
 | zero=>omega
 | succ n ih =>
  rw[kM]
  by_cases e:a=n
  ·subst e
   rw[ae rfl]
   have:S a (λ i=>if i=a then f i else 0)=0:=(qK (g:=λ _=>0) λ i hi=>af (by omega)).trans (wU a)
   rw[this];omega
  ·rw[ih (by omega),af (Ne.symm e)];rfl
section
variable (n:Nat)(A:Nat->Nat->Nat)(wt:Nat->Nat)
noncomputable def it:Nat->Nat->Nat->Nat
 | 0,a,b=>if b=a then 1 else 0
 | k+1,a,b=>S n λ j=>A b j*wt j*it k a j
end
end Qs
namespace Dt0
noncomputable def exs (v:Nat->Rat)(D:List Nat->Rat):List Nat->List Nat->List Nat->Rat
 | _,[],_=>0
 | q,c::l,s=>v c*D (q++l++s)-exs v D (q++[c]) l s
noncomputable def sg:List Nat->Rat
 | []=>1
 | _::l=>- sg l
theorem u9 (v:Nat->Rat)(D:List Nat->Rat)(l2 s:List Nat):∀ (l1 q:List Nat),exs v D q (l1++l2) s=exs v D q l1 (l2++s)+sg l1*exs v D (q++l1) l2 s
 | [],q=>by simp[exs,sg];grind
 | c::l1,q=>by
  show v c*D (q++(l1++l2)++s)-exs v D (q++[c]) (l1++l2) s=v c*D (q++l1++(l2++s))-exs v D (q++[c]) l1 (l2++s)+- sg l1*exs v D (q++c::l1) l2 s
  rw[u9 v D l2 s l1 (q++[c])]
  have e1:q++(l1++l2)++s=q++l1++(l2++s):=by simp
  have e2:q++[c]++l1=q++c::l1:=by simp
  rw[e1,e2]
  grind
theorem As (a b:Rat)(u v:Nat->Rat)(D:List Nat->Rat)(s:List Nat):∀ (l q:List Nat),exs (λ j=>a*u j+b*v j) D q l s=a*exs u D q l s+b*exs v D q l s
 | [],q=>by simp[exs];grind
 | c::l,q=>by
  show(a*u c+b*v c)*_-exs _ D (q++[c]) l s=a*(u c*_-exs u D (q++[c]) l s)+b*(v c*_-exs v D (q++[c]) l s)
  rw[As a b u v D s l (q++[c])]
  grind
theorem Ho (v:Nat->Rat)(a b:Rat)(D D':List Nat->Rat)(s:List Nat):∀ (l q:List Nat),exs v (λ ds=>a*D ds+b*D' ds) q l s=a*exs v D q l s+b*exs v D' q l s
 | [],q=>by simp[exs];grind
 | c::l,q=>by
  show v c*_-exs v _ (q++[c]) l s=a*(v c*_-exs v D (q++[c]) l s)+b*(v c*_-exs v D' (q++[c]) l s)
  rw[Ho v a b D D' s l (q++[c])]
  grind
theorem u_ (v:Nat->Rat)(D:List Nat->Rat)(t s:List Nat):∀ (l q:List Nat),exs v (λ ds=>D (ds++t)) q l s=exs v D q l (s++t)
 | [],q=>rfl
 | c::l,q=>by
  show v c*D (q++l++s++t)-exs v _ (q++[c]) l s=v c*D (q++l++(s++t))-exs v D (q++[c]) l (s++t)
  rw[u_ v D t s l (q++[c])]
  simp
theorem oH (v:Nat->Rat)(s:List Nat):∀ (l q:List Nat),exs v (λ _=>0) q l s=0
 | [],q=>rfl
 | c::l,q=>by
  show v c*0-exs v _ (q++[c]) l s=0
  rw[oH v s l (q++[c])];grind
noncomputable def sS (v u:Nat->Rat)(D:List Nat->Rat):List Nat->List Nat->Rat
 | _,[]=>0
 | pre,c::cs=>sg pre*(v c*exs u D pre cs []-u c*exs v D pre cs [])-sS v u D (pre++[c]) cs
theorem Au (v u:Nat->Rat)(D:List Nat->Rat):∀ (cs pre:List Nat),sS v u D pre cs=- sS u v D pre cs
 | [],pre=>by simp[sS]
 | c::cs,pre=>by
  show sg pre*(v c*exs u D pre cs []-u c*exs v D pre cs [])-sS v u D (pre++[c]) cs=- (sg pre*(u c*exs v D pre cs []-v c*exs u D pre cs [])-sS u v D (pre++[c]) cs)
  rw[Au v u D cs (pre++[c])]
  grind
theorem rg (v u:Nat->Rat)(D:List Nat->Rat):∀ (cs pre:List Nat),exs v (λ ds=>exs u D [] ds []) pre cs []=sS v u D pre cs+exs u (λ ds=>exs v D ds cs []) [] pre []
 | [],pre=>by
  show(0:Rat)=0+exs u (λ ds=>0) [] pre []
  rw[oH];grind
 | c::cs,pre=>by
  show v c*exs u D [] (pre++cs++[]) []-exs v (λ ds=>exs u D [] ds []) (pre++[c]) cs []=sg pre*(v c*exs u D pre cs []-u c*exs v D pre cs [])-sS v u D (pre++[c]) cs+exs u (λ ds=>v c*D (ds++cs++[])-exs v D (ds++[c]) cs []) [] pre []
  rw[rg v u D cs (pre++[c]),u9 u (λ ds=>exs v D ds cs []) [c] [] pre []]
  have h1:=u9 u D cs [] pre []
  have h2:exs u (λ ds=>v c*D (ds++cs++[])-exs v D (ds++[c]) cs []) [] pre []=v c*exs u D [] pre cs-exs u (λ ds=>exs v D ds cs []) [] pre [c]:=by
   have:=Ho u (v c) (-1) (λ ds=>D (ds++cs)) (λ ds=>exs v D (ds++[c]) cs []) [] pre []
   have e:(λ ds=>v c*D (ds++cs++[])-exs v D (ds++[c]) cs [])=λ ds=>v c*D (ds++cs)+-1*exs v D (ds++[c]) cs []:=by funext ds;rw[List.append_nil];grind
   rw[e,this,u_ u D cs [] pre [],u_ u (λ ds=>exs v D ds cs []) [c] [] pre []]
   simp only[List.nil_append]
   grind
  rw[h2]
  simp only[List.append_nil,List.nil_append]at *
  rw[h1]
  have e3:exs u (λ ds=>exs v D ds cs []) pre [c] []=u c*exs v D pre cs []-0:=by
   show u c*exs v D (pre++[]++[]) cs []-0=_
   simp
  rw[e3]
  grind
noncomputable def dt:List (Nat->Rat)->List Nat->Rat
 | [],_=>1
 | v::R,cs=>exs v (dt R) [] cs []
theorem Av (v u:Nat->Rat)(R:List (Nat->Rat))(cs:List Nat):dt (v::u::R) cs=- dt (u::v::R) cs:=by
 show exs v (λ ds=>exs u (dt R) [] ds []) [] cs []=- exs u (λ ds=>exs v (dt R) [] ds []) [] cs []
 rw[rg v u (dt R) cs [],rg u v (dt R) cs [],Au]
 show-sS u v (dt R) [] cs+0=- (sS u v (dt R) [] cs+0)
 grind
theorem Hq (v:Nat->Rat):∀ (R:List (Nat->Rat)) (cs:List Nat),v∈R->dt (v::R) cs=0
 | [],_,h=>by cases h
 | u::R,cs,h=>by
  by_cases e:v=u
  ·subst e
   have:=Av v v R cs
   grind
  ·have hm:v∈R:=(ar.mp h).elim (λ z=>absurd z e) id
   rw[Av]
   show-exs u (λ ds=>dt (v::R) ds) [] cs []=0
   have:(λ ds=>dt (v::R) ds)=λ _=>(0:Rat):=by funext ds;exact Hq v R ds hm
   rw[this,oH];grind
theorem CT (a b:Rat)(u v:Nat->Rat)(R:List (Nat->Rat))(cs:List Nat):dt ((λ j=>a*u j+b*v j)::R) cs=a*dt (u::R) cs+b*dt (v::R) cs:=As a b u v (dt R) [] cs []
noncomputable def IsZ (x:Rat):Prop:=∃ z:Int,x=z
theorem IsZ.mul {x y:Rat}(h:IsZ x)(h':IsZ y):IsZ (x*y):=by obtain⟨a,rfl⟩:=h;obtain⟨b,rfl⟩:=h';exact⟨a*b,by rw[Rat.intCast_mul]⟩
theorem IsZ.sub {x y:Rat}(h:IsZ x)(h':IsZ y):IsZ (x-y):=by obtain⟨a,rfl⟩:=h;obtain⟨b,rfl⟩:=h';exact⟨a-b,by rw[Rat.intCast_sub]⟩
theorem IsZ.neg {x:Rat}(h:IsZ x):IsZ (-x):=by obtain⟨a,rfl⟩:=h;exact⟨-a,by rw[Rat.intCast_neg]⟩
theorem Aw {v:Nat->Rat}{D:List Nat->Rat}(hv:∀ j,IsZ (v j))(hD:∀ ds,IsZ (D ds))(s:List Nat):∀ (l q:List Nat),IsZ (exs v D q l s)
 | [],q=>⟨0,rfl⟩
 | c::l,q=>((hv c).mul (hD _)).sub (Aw hv hD s l (q++[c]))
theorem y7:∀ (R:List (Nat->Rat)) (cs:List Nat),(∀ v∈R,∀ j,IsZ (v j))->IsZ (dt R cs)
 | [],_,_=>⟨1,rfl⟩
 | v::R,cs,h=>Aw (h v ai) (λ ds=>y7 R ds λ u hu=>h u (ak _ hu)) [] cs []
theorem va {v:Nat->Rat}{D:List Nat->Rat}{s:List Nat}:∀ (l q:List Nat),(∀ c∈l,v c=0)->exs v D q l s=0
 | [],q,_=>rfl
 | c::l,q,h=>by
  show v c*_-exs v D (q++[c]) l s=0
  rw[h c ai,va l (q++[c]) λ d hd=>h d (ak _ hd)];grind
theorem oJ {v:Nat->Rat}{R:List (Nat->Rat)}{j:Nat}{cs:List Nat}(h:∀ c∈cs,v c=0):dt (v::R) (j::cs)=v j*dt R cs:=by
 show v j*dt R ([]++cs++[])-exs v (dt R) ([]++[j]) cs []=_
 rw[va cs _ h]
 simp;grind
end Dt0
namespace Dt0
noncomputable def sm:Nat->(Nat->Rat)->Rat
 | 0,_=>0
 | n+1,f=>sm n f+f n
theorem kN (a b:Rat)(f g:Nat->Rat):∀ n,sm n (λ r=>a*f r+b*g r)=a*sm n f+b*sm n g
 | 0=>by simp[sm];grind
 | n+1=>by show sm n _+_=a*(sm n f+f n)+b*(sm n g+g n);rw[kN a b f g n];grind
theorem cN {f g:Nat->Rat}:∀ {n:Nat},(∀ r,r<n->f r=g r)->sm n f=sm n g
 | 0,_=>rfl
 | n+1,h=>by show sm n f+f n=sm n g+g n;rw[cN λ r hr=>h r (by omega),h n (by omega)]
theorem lM:∀ n,sm n (λ _=>0)=0
 | 0=>rfl
 | n+1=>by show sm n _+0=0;rw[lM n];grind
theorem CU (a:Rat)(f:Nat->Rat)(n:Nat):sm n (λ r=>a*f r)=a*sm n f:=by
 have:=kN a 0 f (λ _=>0) n
 have e:(λ r=>a*f r+0*(λ _=>(0:Rat)) r)=λ r=>a*f r:=by funext r;grind
 rw[e]at this;rw[this];grind
theorem Ax (F:Nat->Nat->Rat)(m:Nat):∀ n,sm n (λ i=>sm m (λ j=>F i j))=sm m (λ j=>sm n (λ i=>F i j))
 | 0=>by show(0:Rat)=sm m (λ j=>0);rw[lM]
 | n+1=>by
  show sm n _+sm m (λ j=>F n j)=sm m (λ j=>sm n (λ i=>F i j)+F n j)
  rw[Ax F m n]
  have:=kN 1 1 (λ j=>sm n (λ i=>F i j)) (λ j=>F n j) m
  have e:(λ j=>1*sm n (λ i=>F i j)+1*F n j)=λ j=>sm n (λ i=>F i j)+F n j:=by funext r;grind
  rw[e]at this;rw[this];grind
theorem kO {f:Nat->Rat}{i:Nat}:∀ {n:Nat},i<n->(∀ r,r<n->r≠i->f r=0)->sm n f=f i
 | 0,h,_=>by omega
 | n+1,h,hz=>by
  show sm n f+f n=f i
  by_cases e:i=n
  ·subst e
   have:sm i f=sm i (λ _=>0):=cN λ r hr=>hz r (by omega) (by omega)
   rw[this,lM];grind
  ·rw[kO (n:=n) (by omega) λ r hr ne=>hz r (by omega) ne,hz n (by omega) (by omega)];grind
section
variable (A:Nat->Nat->Rat)
noncomputable def rd:Nat->Nat->Nat->Rat
 | 0=>A
 | k+1=>λ i j=>if i=k then rd k k j / rd k k k else rd k i j-rd k i k*(rd k k j / rd k k k)
noncomputable def Rw:Nat->List (Nat->Rat)
 | 0=>[]
 | k+1=>A k::Rw k
noncomputable def Ck:Nat->List Nat
 | 0=>[]
 | k+1=>k::Ck k
noncomputable def Sp (k:Nat)(f:Nat->Rat):Prop:=∃ c:Nat->Rat,∀ j,f j=sm k (λ r=>c r*A r j)
noncomputable def Dk (k:Nat):Rat:=dt (Rw A k) (Ck k)
variable {A}
theorem rh:∀ {k c:Nat},c∈Ck k->c<k
 | 0,c,h=>by cases h
 | k+1,c,h=>(ar.mp h).elim (λ e=>by omega) λ h=>by have:=rh h;omega
theorem CV:∀ {k r:Nat},r<k->A r∈Rw A k
 | 0,r,h=>by omega
 | k+1,r,h=>by
  by_cases e:r=k
  ·subst e;exact ai
  ·exact ak _ (CV (by omega))
theorem Sp.lin {k:Nat}{f g:Nat->Rat}(a b:Rat)(h:Sp A k f)(h':Sp A k g):Sp A k (λ j=>a*f j+b*g j):=by
 obtain⟨c,hc⟩:=h
 obtain⟨d,hd⟩:=h'
 refine⟨λ r=>a*c r+b*d r,λ j=>?_⟩
 show a*f j+b*g j=sm k (λ r=>(a*c r+b*d r)*A r j)
 rw[hc,hd,<-kN]
 exact cN λ r _=>by grind
theorem Sp.up {k:Nat}{f:Nat->Rat}(h:Sp A k f):Sp A (k+1) f:=by
 obtain⟨c,hc⟩:=h
 refine⟨λ r=>if r=k then 0 else c r,λ j=>?_⟩
 show f j=sm k _+(if k=k then 0 else c k)*A k j
 rw[ae rfl,hc]
 have:sm k (λ r=>c r*A r j)=sm k (λ r=>(if r=k then 0 else c r)*A r j):=cN λ r hr=>by rw[af (by omega)]
 rw[this];grind
theorem Sp.self (k:Nat):Sp A (k+1) (A k):=by
 refine⟨λ r=>if r=k then 1 else 0,λ j=>?_⟩
 show A k j=sm k _+(if k=k then 1 else 0)*A k j
 have:sm k (λ r=>(if r=k then (1:Rat) else 0)*A r j)=sm k (λ _=>0):=cN λ r hr=>by rw[af (by omega)];grind
 rw[ae rfl,this,lM];grind
theorem Sp.y9 {k:Nat}{f g:Nat->Rat}(h:Sp A k f)(e:∀ j,g j=f j):Sp A k g:=by
 obtain⟨c,hc⟩:=h
 exact⟨c,λ j=>(e j).trans (hc j)⟩
theorem CW (c:Nat->Rat)(R:List (Nat->Rat))(cs:List Nat):∀ (m:Nat),(∀ r,r<m->A r∈R)->dt ((λ j=>sm m (λ r=>c r*A r j))::R) cs=0
 | 0,_=>va cs [] λ _ _=>rfl
 | m+1,h=>by
  have e:(λ j=>sm (m+1) (λ r=>c r*A r j))=λ j=>1*sm m (λ r=>c r*A r j)+c m*A m j:=by
   funext j
   show sm m _+c m*A m j=_
   grind
  rw[e,CT,CW c R cs m λ r hr=>h r (by omega),Hq (A m) R cs (h m (by omega))];grind
theorem Sp.dt {k:Nat}{f:Nat->Rat}(h:Sp A k f)(cs:List Nat):Dt0.dt (f::Rw A k) cs=0:=by
 obtain⟨c,hc⟩:=h
 have e:f=λ j=>sm k (λ r=>c r*A r j):=funext hc
 rw[e]
 exact CW c _ cs k λ r hr=>CV hr
theorem rn {k:Nat}{v w:Nat->Rat}(h:Sp A k (λ j=>v j-w j))(cs:List Nat):Dt0.dt (v::Rw A k) cs=Dt0.dt (w::Rw A k) cs:=by
 have e:v=λ j=>1*w j+1*(v j-w j):=by funext j;grind
 have:=CT 1 1 w (λ j=>v j-w j) (Rw A k) cs
 rw[<-e,h.dt]at this
 rw[this];grind
structure Eli (A:Nat->Nat->Rat)(k:Nat):Prop where
 z:∀ i c,k<=i->c<k->rd A k i c=0
 o:∀ i c,i<k->c<k->rd A k i c=if i=c then 1 else 0
 s:∀ i,k<=i->Sp A k (λ j=>A i j-rd A k i j)
 t:∀ i,i<k->Sp A k (rd A k i)
theorem CY {k:Nat}(e:Eli A k)(p:rd A k k k≠0):Eli A (k+1):=by
 have pp:rd A k k k / rd A k k k=1:=by grind
 have self:∀ j,rd A (k+1) k j=rd A k k j / rd A k k k:=λ j=>by show(if k=k then _ else _)=_;rw[ae rfl]
 have other:∀ i j,i≠k->rd A (k+1) i j=rd A k i j-rd A k i k*(rd A k k j / rd A k k k):=λ i j h=>by show(if i=k then _ else _)=_;rw[af h]
 have own:Sp A (k+1) (rd A k k):=by
  have:=Sp.lin 1 (-1) (Sp.self k) (e.s k (ag _)).up
  exact this.y9 λ j=>by grind
 refine⟨λ i c hi hc=>?_,λ i c hi hc=>?_,λ i hi=>?_,λ i hi=>?_⟩
 ·rw[other i c (by omega)]
  by_cases ck:c=k
  ·subst ck;rw[pp];grind
  ·rw[e.z i c (by omega) (by omega),e.z k c (ag _) (by omega)];grind
 ·by_cases ik:i=k
  ·subst ik
   rw[self]
   by_cases ck:c=i
   ·subst ck;rw[pp,ae rfl]
   ·rw[e.z i c (ag _) (by omega),af (by omega)];grind
  ·rw[other i c ik]
   by_cases ck:c=k
   ·subst ck;rw[pp,af (by omega)];grind
   ·rw[e.o i c (by omega) (by omega),e.z k c (ag _) (by omega)];grind
 ·have:=Sp.lin 1 (rd A k i k / rd A k k k) (e.s i (by omega)).up own
  exact this.y9 λ j=>by rw[other i j (by omega)];grind
 ·by_cases ik:i=k
  ·subst ik
   have:=Sp.lin (1 / rd A i i i) 0 own own
   exact this.y9 λ j=>by rw[self];grind
  ·have:=Sp.lin 1 (-(rd A k i k / rd A k k k)) (e.t i (by omega)).up own
   exact this.y9 λ j=>by rw[other i j ik];grind
theorem CZ:Eli A 0:=⟨λ i c _ h=>by omega,λ i c h _=>by omega,λ i _=>⟨λ _=>0,λ j=>by show A i j-A i j=0;grind⟩,λ i h=>by omega⟩
theorem eli {n:Nat}(p:∀ k,k<n->rd A k k k≠0):∀ k,k<=n->Eli A k
 | 0,_=>CZ
 | k+1,h=>CY (eli p k (by omega)) (p k (by omega))
theorem Ay {k:Nat}(e:Eli A k):Dk A (k+1)=rd A k k k*Dk A k:=by
 show Dt0.dt (A k::Rw A k) (k::Ck k)=_
 rw[rn (e.s k (ag _))]
 exact oJ λ c hc=>e.z k c (ag _) (rh hc)
theorem Ih (hz:∀ i j,IsZ (A i j))(k:Nat):IsZ (Dk A k):=y7 _ _ λ v hv=>by
 have:∀ k,v∈Rw A k->∃ r,v=A r:=λ k=>by
  induction k with
  | zero=>intro h;cases h
  | succ k ih=>intro h;exact(ar.mp h).elim (λ e=>⟨k,e⟩) ih
 obtain⟨r,rfl⟩:=this k hv
 exact hz r
theorem wV (hz:∀ i j,IsZ (A i j))(k:Nat){v:Nat->Rat}(hv:∀ j,IsZ (v j))(cs:List Nat):IsZ (Dt0.dt (v::Rw A k) cs):=by
 refine y7 _ _ λ u hu=>?_
 rcases ar.mp hu with rfl | hu
 ·exact hv
 ·have:∀ k,u∈Rw A k->∃ r,u=A r:=λ k=>by
   induction k with
   | zero=>intro h;cases h
   | succ k ih=>intro h;exact(ar.mp h).elim (λ e=>⟨k,e⟩) ih
  obtain⟨r,rfl⟩:=this k hu
  exact hz r
theorem FF (hz:∀ i j,IsZ (A i j)){k:Nat}(e:Eli A k)(i j:Nat):IsZ (rd A k i j*Dk A k):=by
 by_cases hi:k<=i
 ·have h:=wV hz k (hz i) (j::Ck k)
  rw[rn (e.s i hi),oJ λ c hc=>e.z i c hi (rh hc)]at h
  exact h
 ·have hi:i<k:=by omega
  have hv:∀ j:Nat,IsZ ((λ j=>if j=i then (1:Rat) else 0) j):=λ j=>by
   show IsZ (if j=i then 1 else 0)
   split
   ·exact⟨1,rfl⟩
   ·exact⟨0,rfl⟩
  have h:=wV hz k hv (j::Ck k)
  have sp:Sp A k (λ j=>(λ j=>if j=i then (1:Rat) else 0) j-((λ j=>if j=i then (1:Rat) else 0) j-rd A k i j)):=(e.t i hi).y9 λ j=>by grind
  rw[rn (w:=λ j=>(if j=i then (1:Rat) else 0)-rd A k i j) sp,oJ λ c hc=>by
   rw[e.o i c hi (rh hc)]
   by_cases q:c=i
   ·rw[ae q,ae q.symm];grind
   ·rw[af q,af (Ne.symm q)];grind]at h
  have h2:=((hv j).mul (Ih hz k)).sub h
  have e3:(λ j=>if j=i then (1:Rat) else 0) j*Dk A k-((if j=i then 1 else 0)-rd A k i j)*Dt0.dt (Rw A k) (Ck k)=rd A k i j*Dk A k:=by
   show _-((if j=i then 1 else 0)-rd A k i j)*Dk A k=_
   grind
  rw[e3]at h2
  exact h2
end
end Dt0
namespace Dt0
section
variable (a:Nat->Nat->Int)
noncomputable def qA:Nat->Nat->Rat:=λ i j=>(a i j:Rat)
mutual
noncomputable def Tz:Nat->Nat->Nat->Int
 | 0=>a
 | k+1=>λ i j=>if i=k then Tz k i j else (Tz k k k*Tz k i j-Tz k i k*Tz k k j) / fm k
noncomputable def fm:Nat->Int
 | 0=>1
 | k+1=>Tz k k k
end
variable {a}
theorem cast_inj {x y:Int}(h:(x:Rat)=(y:Rat)):x=y:=Rat.intCast_inj.mp h
theorem wW {n:Nat}(p:∀ k,k<n->rd (qA a) k k k≠0):∀ k,k<=n->(∀ i j,(Tz a k i j:Rat)=rd (qA a) k i j*Dk (qA a) k)/\(fm a k:Rat)=Dk (qA a) k/\Dk (qA a) k≠0
 | 0,_=>⟨λ i j=>by show(a i j:Rat)=(a i j:Rat)*1;grind,rfl,by show(1:Rat)≠0;decide⟩
 | k+1,h=>by
  obtain⟨h1,h2,h3⟩:=wW p k (by omega)
  have ek:=eli p k (by omega)
  have ds:=Ay ek
  have pk:=p k (by omega)
  have d1:Dk (qA a) (k+1)≠0:=by rw[ds];grind
  refine⟨λ i j=>?_,by show(Tz a k k k:Rat)=_;rw[h1,ds],d1⟩
  by_cases hi:i=k
  ·subst hi
   show((if i=i then Tz a i i j else _:Int):Rat)=(if i=i then rd (qA a) i i j / rd (qA a) i i i else _)*_
   rw[ae rfl,ae rfl,h1,ds]
   grind
  ·show((if i=k then _ else (Tz a k k k*Tz a k i j-Tz a k i k*Tz a k k j) / fm a k:Int):Rat)=_
   rw[af hi]
   obtain⟨z,hz⟩:=FF (A:=qA a) (λ i j=>⟨a i j,rfl⟩) (eli p (k+1) h) i j
   have hr:rd (qA a) (k+1) i j=rd (qA a) k i j-rd (qA a) k i k*(rd (qA a) k k j / rd (qA a) k k k):=by show(if i=k then _ else _)=_;rw[af hi]
   have num:Tz a k k k*Tz a k i j-Tz a k i k*Tz a k k j=fm a k*z:=by
    apply cast_inj
    rw[Rat.intCast_sub,Rat.intCast_mul,Rat.intCast_mul,Rat.intCast_mul,h1,h1,h1,h1,h2,<-hz,hr,ds]
    grind
   have fz:fm a k≠0:=λ q=>by rw[q]at h2;exact h3 h2.symm
   rw[num,Int.mul_ediv_cancel_left _ fz,hz]
theorem C0 {n:Nat}(p:∀ k,k<n->rd (qA a) k k k≠0){i:Nat}(hi:i<n):sm n (λ j=>(a i j:Rat)*rd (qA a) n j n)=(a i n:Rat):=by
 have e:=eli p n (ag _)
 have dn:=(wW p n (ag _)).2.2
 have spS:∀ m,m<=n->Sp (qA a) n (λ c=>sm m (λ j=>qA a i j*rd (qA a) n j c)):=λ m=>by
  induction m with
  | zero=>intro _;exact⟨λ _=>0,λ c=>by
    show(0:Rat)=sm n (λ r=>0*qA a r c)
    have:sm n (λ r=>0*qA a r c)=sm n (λ _=>0):=cN λ r _=>by grind
    rw[this,lM]⟩
  | succ m ih =>
   intro hm
   exact(Sp.lin 1 (qA a i m) (ih (by omega)) (e.t m (by omega))).y9 λ c=>by show sm m _+qA a i m*rd (qA a) n m c=_;grind
 have spA:Sp (qA a) n (qA a i):=by
  have:∀ m,i<m->Sp (qA a) m (qA a i):=λ m=>by
   induction m with
   | zero=>intro h;omega
   | succ m ih =>
    intro h
    by_cases q:i=m
    ·subst q;exact Sp.self i
    ·exact(ih (by omega)).up
  exact this n hi
 have sp:=Sp.lin 1 (-1) spA (spS n (ag _))
 have zero:∀ c∈Ck n,(λ c=>1*qA a i c+-1*sm n (λ j=>qA a i j*rd (qA a) n j c)) c=0:=λ c hc=>by
  have hc:=rh hc
  have:sm n (λ j=>qA a i j*rd (qA a) n j c)=qA a i c*rd (qA a) n c c:=kO (i:=c) hc λ r hr ne=>by rw[e.o r c hr hc,af ne];grind
  show 1*qA a i c+-1*sm n (λ j=>qA a i j*rd (qA a) n j c)=0
  rw[this,e.o c c hc hc,ae rfl];grind
 have d:=sp.dt (n::Ck n)
 rw[oJ zero]at d
 have d:(1*qA a i n+-1*sm n (λ j=>qA a i j*rd (qA a) n j n))*Dk (qA a) n=0:=d
 have:1*qA a i n+-1*sm n (λ j=>qA a i j*rd (qA a) n j n)=0:=by
  rcases Rat.mul_eq_zero.mp d with h | h
  ·exact h
  ·exact absurd h dn
 show sm n (λ j=>qA a i j*rd (qA a) n j n)=qA a i n
 grind
theorem only {n:Nat}(p:∀ k,k<n->rd (qA a) k k k≠0){y:Nat->Rat}(hy:∀ i,i<n->sm n (λ j=>(a i j:Rat)*y j)=(a i n:Rat)){i:Nat}(hi:i<n):y i=rd (qA a) n i n:=by
 have e:=eli p n (ag _)
 obtain⟨c,hc⟩:=e.t i hi
 have h1:sm n (λ j=>rd (qA a) n i j*y j)=y i:=by
  have:=kO (f:=λ j=>rd (qA a) n i j*y j) hi λ r hr ne=>by rw[e.o i r hi hr,af (Ne.symm ne)];grind
  rw[this,e.o i i hi hi,ae rfl];grind
 have h2:sm n (λ j=>rd (qA a) n i j*y j)=sm n (λ r=>c r*(a r n:Rat)):=by
  have:sm n (λ j=>rd (qA a) n i j*y j)=sm n (λ j=>sm n (λ r=>c r*qA a r j*y j)):=cN λ j _=>by
   have e2:(λ r=>c r*qA a r j*y j)=λ r=>y j*(c r*qA a r j):=by funext r;grind
   rw[hc,e2,CU];grind
  rw[this,Ax]
  exact cN λ r hr=>by
   have e2:(λ i=>c r*qA a r i*y i)=λ i=>c r*((a r i:Rat)*y i):=by funext i;show _=c r*(qA a r i*y i);grind
   rw[e2,CU,hy r hr]
 rw[<-h1,h2,hc];rfl
end
end Dt0
namespace Dt0
noncomputable def sT (n:Nat)(S:Nat->Bool)(f:Nat->Rat):Rat:=sm n (λ j=>if S j=true then f j else 0)
theorem Ii (n:Nat)(S:Nat->Bool)(a b:Rat)(f g:Nat->Rat):sT n S (λ j=>a*f j+b*g j)=a*sT n S f+b*sT n S g:=by
 unfold sT
 rw[<-kN]
 exact cN λ j _=>by split<;>grind
theorem y_ {n k:Nat}{S:Nat->Bool}(hk:k<n)(hS:S k=false)(f:Nat->Rat):sT n (λ j=>S j || j==k) f=sT n S f+f k:=by
 unfold sT
 have h:=kN 1 1 (λ j=>if S j=true then f j else 0) (λ j=>if j=k then f j else 0) n
 have e1:sm n (λ j=>if j=k then f j else 0)=f k:=by
  have:=kO (f:=λ j=>if j=k then f j else 0) hk λ r _ ne=>af ne
  rw[this,ae rfl]
 rw[e1]at h
 have e2:sm n (λ j=>if (S j || j==k)=true then f j else 0)=sm n (λ j=>1*(if S j=true then f j else 0)+1*(if j=k then f j else 0)):=cN λ j _=>by
  by_cases c:j=k
  ·subst c;simp[hS];grind
  ·have:(j==k)=false:=by simpa using c
   rw[this,Bool.or_false,af c];grind
 rw[e2,h];grind
theorem FG {n k:Nat}(hk:k<n)(f:Nat->Rat):sT n (λ j=>j==k) f=f k:=by
 unfold sT
 have:=kO (f:=λ j=>if (j==k)=true then f j else 0) hk λ r _ ne=>by rw[af (by simpa using ne)]
 rw[this];simp
structure MM (A:Nat->Nat->Rat)(n k:Nat):Prop where
 off:∀ i j,k<=i->i<n->k<=j->j<n->i≠j->rd A k i j<=0
 sub:∀ (S:Nat->Bool) i,(∀ j,S j=true->k<=j/\j<n)->S i=true->0<=sT n S (rd A k i)
 con:∀ (S:Nat->Bool),(∀ j,S j=true->k<=j/\j<n)->(∃ i,S i=true)->∃ i,S i=true/\0<sT n S (rd A k i)
section
variable {A:Nat->Nat->Rat}{n k:Nat}
theorem MM.piv (m : MM A n k)(hk : k < n) : 0 < rd A k k k := by
  obtain⟨i, hi, h⟩ := m.con (λ j => j == k) (λ j hj => by have e : j = k := (by simpa using hj); omega) ⟨k, by simp⟩
  have : i = k := by simpa using hi
  subst this
  rw[FG hk]at h
  exact h
theorem ir {a b:Rat}(ha:0<=a)(hb:0<=b):0<=a*b:=Rat.mul_nonneg ha hb
theorem Mj {s t q p w:Rat}(hpw:p*w=1)(h:0<=-t*((q+p)*w)):s+t<=s-t*(q*w):=by
 have e:-t*((q+p)*w)=-(t*(q*w))-t:=by grind
 rw[e]at h
 generalize t*(q*w)=x at *
 grind
theorem Ml {s t q p w:Rat}(hpw:p*w=1)(h:0 < -t*((q+p)*w))(h3:0<=s+t):0<s-t*(q*w):=by
 have e:-t*((q+p)*w)=-(t*(q*w))-t:=by grind
 rw[e]at h
 generalize t*(q*w)=x at *
 grind
theorem Mm {r t q w:Rat}(h1:r<=0)(h:0<=-t*(-q*w)):r-t*(q*w)<=0:=by
 have e:-t*(-q*w)=t*(q*w):=by grind
 rw[e]at h
 generalize t*(q*w)=x at *
 grind
theorem MM.step (m:MM A n k)(hk:k<n):MM A n (k+1):=by
 have pp:=m.piv hk
 have hw:0<(rd A k k k)⁻¹:=Rat.inv_pos.mpr pp
 have hpw:rd A k k k*(rd A k k k)⁻¹=1:=Rat.mul_inv_cancel _ (by grind)
 have other:∀ i j,i≠k->rd A (k+1) i j=rd A k i j-rd A k i k*(rd A k k j*(rd A k k k)⁻¹):=λ i j h=>by show(if i=k then _ else _)=_;rw[af h,Rat.div_def]
 have key:∀ (S:Nat->Bool) i,(∀ j,S j=true->k+1<=j/\j<n)->S i=true ->
   sT n S (rd A (k+1) i)=sT n S (rd A k i)-rd A k i k*(sT n S (rd A k k)*(rd A k k k)⁻¹)/\rd A k i k<=0/\0<=sT n S (rd A k i)+rd A k i k/\0<=sT n S (rd A k k)+rd A k k k:=λ S i hS hi=>by
  have ik:=hS i hi
  have nk:S k=false:=by
   cases q:S k with
   | false=>rfl
   | true=>have:=hS k q;omega
  have hS':∀ j,(S j || j==k)=true->k<=j/\j<n:=λ j hj=>by
   rcases Bool.or_eq_true_iff.mp hj with z | z
   ·have:=hS j z;omega
   ·have:j=k:=by simpa using z
    omega
  refine⟨?_,m.off i k (by omega) ik.2 (ag _) hk (by omega),?_,?_⟩
  ·have h:=Ii n S 1 (-(rd A k i k*(rd A k k k)⁻¹)) (rd A k i) (rd A k k)
   have e:rd A (k+1) i=λ j=>1*rd A k i j+-(rd A k i k*(rd A k k k)⁻¹)*rd A k k j:=by funext j;rw[other i j (by omega)];grind
   rw[e,h];grind
  ·have h:=m.sub (λ j=>S j || j==k) i hS' (by rw[hi];rfl)
   rw[y_ hk nk]at h
   exact h
  ·have h:=m.sub (λ j=>S j || j==k) k hS' (by simp)
   rw[y_ hk nk]at h
   exact h
 have low:∀ (S:Nat->Bool) i,(∀ j,S j=true->k+1<=j/\j<n)->S i=true->sT n S (rd A k i)+rd A k i k<=sT n S (rd A (k+1) i):=λ S i hS hi=>by
  obtain⟨h1,h2,h3,h4⟩:=key S i hS hi
  rw[h1]
  exact Mj hpw (ir (a:=-(rd A k i k)) (b:=(sT n S (rd A k k)+rd A k k k)*(rd A k k k)⁻¹) (by grind) (ir h4 (by grind)))
 refine⟨λ i j hi hin hj hjn ne=>?_,λ S i hS hi=>?_,λ S hS hne=>?_⟩
 ·rw[other i j (by omega)]
  have h1:=m.off i j (by omega) hin (by omega) hjn ne
  have h2:=m.off i k (by omega) hin (ag _) hk (by omega)
  have h3:=m.off k j (ag _) hk (by omega) hjn (by omega)
  exact Mm h1 (ir (a:=-(rd A k i k)) (b:=-(rd A k k j)*(rd A k k k)⁻¹) (by grind) (ir (by grind) (by grind)))
 ·obtain⟨h1,h2,h3,h4⟩:=key S i hS hi
  have:=low S i hS hi
  grind
 ·obtain⟨i0,hi0⟩:=hne
  have nk:S k=false:=by
   cases q:S k with
   | false=>rfl
   | true=>have:=hS k q;omega
  have hS':∀ j,(S j || j==k)=true->k<=j/\j<n:=λ j hj=>by
   rcases Bool.or_eq_true_iff.mp hj with z | z
   ·have:=hS j z;omega
   ·have:j=k:=by simpa using z
    omega
  obtain⟨i,hi,pos⟩:=m.con (λ j=>S j || j==k) hS' ⟨k,by simp⟩
  rw[y_ hk nk]at pos
  rcases Bool.or_eq_true_iff.mp hi with z | z
  ·exact⟨i,z,by have:=low S i hS z;grind⟩
  ·have:i=k:=by simpa using z
   subst this
   by_cases ex:∃ i',S i'=true/\rd A i i' i<0
   ·obtain⟨i',hi',neg⟩:=ex
    obtain⟨h1,h2,h3,h4⟩:=key S i' hS hi'
    refine⟨i',hi',?_⟩
    rw[h1]
    exact Ml hpw (Rat.mul_pos (a:=-(rd A i i' i)) (b:=(sT n S (rd A i i)+rd A i i i)*(rd A i i i)⁻¹) (by grind) (Rat.mul_pos pos hw)) h3
   ·obtain⟨i',hi',pos'⟩:=m.con S (λ j hj=>by have:=hS j hj;omega) ⟨i0,hi0⟩
    obtain⟨h1,h2,h3,h4⟩:=key S i' hS hi'
    refine⟨i',hi',?_⟩
    have:rd A i i' i=0:=by
     have:¬ rd A i i' i<0:=λ z=>ex ⟨i',hi',z⟩
     grind
    rw[h1,this]
    grind
theorem MM.all (m:MM A n 0):∀ k,k<=n->MM A n k
 | 0,_=>m
 | k+1,h=>(MM.all m k (by omega)).step (by omega)
theorem MM.Kq (m:MM A n 0):∀ k,k<n->0<rd A k k k:=λ k hk=>(m.all k (by omega)).piv hk
theorem MM.ne (m:MM A n 0):∀ k,k<n->rd A k k k≠0:=λ k hk=>by have:=m.Kq k hk;grind
theorem MM.C1 (m:MM A n 0):∀ k,k<=n->0<Dk A k
 | 0,_=>by show(0:Rat)<1;decide
 | k+1,h=>by
  rw[Ay (eli m.ne k (by omega))]
  exact Rat.mul_pos (m.Kq k (by omega)) (MM.C1 m k (by omega))
end
end Dt0
namespace Dt0
noncomputable def ab (x C:Rat):Prop:=-C<=x/\x<=C
theorem Ij {x y M C:Rat}(h:ab x M)(h':ab y C):ab (x*y) (M*C):=by
 obtain⟨h1,h2⟩:=h
 obtain⟨h3,h4⟩:=h'
 have p1:=ir (a:=M-x) (b:=C+y) (by grind) (by grind)
 have p2:=ir (a:=M+x) (b:=C-y) (by grind) (by grind)
 have p3:=ir (a:=M-x) (b:=C-y) (by grind) (by grind)
 have p4:=ir (a:=M+x) (b:=C+y) (by grind) (by grind)
 have e1:(M-x)*(C+y)+(M+x)*(C-y)=2*(M*C)-2*(x*y):=by grind
 have e2:(M-x)*(C-y)+(M+x)*(C+y)=2*(M*C)+2*(x*y):=by grind
 generalize (M-x)*(C+y)=a1 at *
 generalize (M+x)*(C-y)=a2 at *
 generalize (M-x)*(C-y)=a3 at *
 generalize (M+x)*(C+y)=a4 at *
 generalize x*y=xy at *
 generalize M*C=mc at *
 exact⟨by grind,by grind⟩
theorem C2 {x y M C:Rat}(h:ab x M)(h':ab y C):ab (x-y) (M+C):=⟨by have:=h.1;have:=h'.2;grind,by have:=h.2;have:=h'.1;grind⟩
theorem C3 {v:Nat->Rat}{D:List Nat->Rat}{M C:Rat}{s:List Nat}(hv:∀ j,ab (v j) M)(N:Nat)(hD:∀ ds,ds.length<=N->ab (D ds) C):∀ (l q:List Nat),q.length+l.length+s.length<=N->ab (exs v D q l s) ((l.length:Rat)*(M*C))
 | [],q,_=>by
  show ab 0 (((0:Nat):Rat)*(M*C))
  have:((0:Nat):Rat)*(M*C)=0:=by grind
  rw[this];exact⟨by grind,by grind⟩
 | c::l,q,h=>by
  simp only[List.length_cons]at h
  have h1:=Ij (hv c) (hD (q++l++s) (by rw[List.length_append,List.length_append];omega))
  have h2:=C3 (s:=s) hv N hD l (q++[c]) (by rw[List.length_append];simp only[List.length_cons,List.length_nil];omega)
  have h3:=C2 h1 h2
  have e:((c::l).length:Rat)*(M*C)=M*C+(l.length:Rat)*(M*C):=by
   have:(((c::l).length:Nat):Rat)=(l.length:Rat)+1:=by rw[List.length_cons];exact Rat.natCast_add _ 1
   rw[this];grind
  rw[e];exact h3
theorem m7 {x M C:Rat}(h:ab x M)(l:M<=C):ab x C:=⟨by have:=h.1;grind,by have:=h.2;grind⟩
theorem C4 {M:Rat}(hM:0<=M):∀ (R:List (Nat->Rat)) (cs:List Nat),(∀ v∈R,∀ j,ab (v j) M)->cs.length<=9->ab (dt R cs) ((9*M) ^ R.length)
 | [],cs,_,_=>by
  show ab 1 ((9*M) ^ 0)
  rw[Rat.pow_zero];exact⟨by decide,by decide⟩
 | v::R,cs,h,hl=>by
  have h1:=C3 (s:=[]) (h v ai) 9 (λ ds hd=>C4 hM R ds (λ u hu=>h u (ak _ hu)) hd) cs [] (by simpa using hl)
  refine m7 h1 ?_
  have hp:0<=(9*M) ^ R.length:=Rat.pow_nonneg (by grind)
  have hc:(cs.length:Rat)<=9:=by
   have:((cs.length:Nat):Rat)<=((9:Nat):Rat):=Rat.natCast_le_natCast.mpr hl
   exact this
  have:=ir (a:=9-(cs.length:Rat)) (b:=M*(9*M) ^ R.length) (by grind) (ir hM hp)
  show(cs.length:Rat)*(M*(9*M) ^ R.length)<=(9*M) ^ (R.length+1)
  rw[Rat.pow_succ]
  generalize (9*M) ^ R.length=P at *
  have e:(9-(cs.length:Rat))*(M*P)=P*(9*M)-(cs.length:Rat)*(M*P):=by grind
  rw[e]at this
  generalize (cs.length:Rat)*(M*P)=z at *
  grind
theorem za (A:Nat->Nat->Rat):∀ k,(Rw A k).length=k
 | 0=>rfl
 | k+1=>by show(Rw A k).length+1=_;rw[za A k]
theorem zb:∀ k,(Ck k).length=k
 | 0=>rfl
 | k+1=>by show(Ck k).length+1=_;rw[zb k]
theorem C5 {A:Nat->Nat->Rat}{u:Nat->Rat}:∀ {k:Nat},u∈Rw A k->∃ r,u=A r
 | 0,h=>by cases h
 | k+1,h=>(ar.mp h).elim (λ e=>⟨k,e⟩) C5
theorem wX {x : Rat}(h : 1 <= x) : ∀ {m n : Nat}, m <= n -> x ^ m <= x ^ n := by
  intro m n hmn
  induction n with
  | zero => have : m = 0 := by omega
            subst this; grind
  | succ n ih =>
    by_cases e : m = n + 1
    · subst e; grind
    · have h1 := ih (by omega)
      have h0 : 0 <= x ^ n := Rat.pow_nonneg (by grind)
      have := ir (a := x ^ n) (b := x - 1) h0 (by grind)
      rw[Rat.pow_succ]
      have e2 : x ^ n * (x - 1) = x ^ n * x - x ^ n := by grind
      rw[e2]at this
      generalize x ^ n * x = z at *
      grind
theorem Ik {A:Nat->Nat->Rat}{M:Rat}(hM:1<=M)(hz:∀ i j,ab (A i j) M){k:Nat}(hk:k<=8)(e:Eli A k)(i j:Nat):ab (rd A k i j*Dk A k) (2*(9*M) ^ 9)/\ab (Dk A k) ((9*M) ^ 9):=by
 have h9:(1:Rat)<=9*M:=by grind
 have hR:∀ {v:Nat->Rat},(∀ j,ab (v j) M)->∀ u∈v::Rw A k,∀ j,ab (u j) M:=λ hv u hu=>by
  rcases ar.mp hu with rfl | hu
  ·exact hv
  ·obtain⟨r,rfl⟩:=C5 hu
   exact hz r
 have hb:∀ {v:Nat->Rat},(∀ j,ab (v j) M)->ab (dt (v::Rw A k) (j::Ck k)) ((9*M) ^ 9):=λ hv=>by
  have:=C4 (by grind) _ (j::Ck k) (hR hv) (by rw[List.length_cons,zb];omega)
  exact m7 this (wX h9 (by rw[List.length_cons,za];omega))
 have hD:ab (Dk A k) ((9*M) ^ 9):=by
  have:=C4 (M:=M) (by grind) (Rw A k) (Ck k) (λ u hu=>by obtain⟨r,rfl⟩:=C5 hu;exact hz r) (by rw[zb];omega)
  exact m7 this (wX h9 (by rw[za];omega))
 refine⟨?_,hD⟩
 have hP:0<=(9*M) ^ 9:=Rat.pow_nonneg (by grind)
 by_cases hi:k<=i
 ·have h:=hb (hz i)
  rw[rn (e.s i hi),oJ λ c hc=>e.z i c hi (rh hc)]at h
  exact m7 h (by grind)
 ·have hi:i<k:=by omega
  have hv:∀ j:Nat,ab ((λ j=>if j=i then (1:Rat) else 0) j) M:=λ j=>by
   show ab (if j=i then 1 else 0) M
   split
   ·exact⟨by grind,by grind⟩
   ·exact⟨by grind,by grind⟩
  have h:=hb hv
  have sp:Sp A k (λ j=>(λ j=>if j=i then (1:Rat) else 0) j-((λ j=>if j=i then (1:Rat) else 0) j-rd A k i j)):=(e.t i hi).y9 λ j=>by grind
  rw[rn (w:=λ j=>(if j=i then (1:Rat) else 0)-rd A k i j) sp,oJ λ c hc=>by
   rw[e.o i c hi (rh hc)]
   by_cases q:c=i
   ·rw[ae q,ae q.symm];grind
   ·rw[af q,af (Ne.symm q)];grind]at h
  have h1:ab ((if j=i then (1:Rat) else 0)*Dk A k) ((9*M) ^ 9):=by
   split
   ·have:(1:Rat)*Dk A k=Dk A k:=by grind
    rw[this];exact hD
   ·have:(0:Rat)*Dk A k=0:=by grind
    rw[this];exact⟨by grind,by grind⟩
  have h2:=C2 h1 h
  have e3:(if j=i then (1:Rat) else 0)*Dk A k-((if j=i then 1 else 0)-rd A k i j)*Dt0.dt (Rw A k) (Ck k)=rd A k i j*Dk A k:=by
   show _-((if j=i then 1 else 0)-rd A k i j)*Dk A k=_
   grind
  rw[e3]at h2
  exact m7 h2 (by grind)
theorem uu {z:Int}{N:Nat}(h:ab (z:Rat) (N:Rat)):z.natAbs<=N:=by
 have h1:(z:Rat)<=((N:Int):Rat):=h.2
 have h2:((-(N:Int):Int):Rat)<=(z:Rat):=by rw[Rat.intCast_neg];exact h.1
 have h1:=Rat.intCast_le_intCast.mp h1
 have h2:=Rat.intCast_le_intCast.mp h2
 omega
theorem Kr {a:Nat->Nat->Int}{n:Nat}(hn:n<=8)(p:∀ k,k<n->rd (qA a) k k k≠0)(hz:∀ i j,(a i j).natAbs<=1000){k:Nat}(hk:k<=n)(i j:Nat):(Tz a k i j).natAbs<2 ^ 200/\(fm a k).natAbs<2 ^ 200:=by
 obtain⟨h1,h2,_⟩:=wW p k hk
 have hA:∀ i j,ab (qA a i j) 1000:=λ i j=>by
  have:=hz i j
  have l1:(a i j:Int)<=1000:=by omega
  have l2:(-1000:Int)<=a i j:=by omega
  have l1:=Rat.intCast_le_intCast.mpr l1
  have l2:=Rat.intCast_le_intCast.mpr l2
  exact⟨l2,l1⟩
 obtain⟨b1,b2⟩:=Ik (M:=1000) (by decide) hA (Nat.le_trans hk hn) (eli p k hk) i j
 rw[<-h1]at b1
 rw[<-h2]at b2
 have e:(2:Rat)*(9*1000) ^ 9=((2*9000 ^ 9:Nat):Rat):=by decide +kernel
 have e':((9:Rat)*1000) ^ 9=((9000 ^ 9:Nat):Rat):=by decide +kernel
 rw[e]at b1
 rw[e']at b2
 exact⟨Nat.lt_of_le_of_lt (uu b1) (by decide +kernel),Nat.lt_of_le_of_lt (uu b2) (by decide +kernel)⟩
end Dt0
namespace L2
open PySem PySem.Spec PyProof.Rows
noncomputable abbrev Key:=Sum Int Str
noncomputable def pZ:Key->Value->Bool
 | .inl k,v=>Value.isInt k v
 | .inr x,v=>Value.isStrOf x v
noncomputable def Mn (w:World):Key->Int
 | .inl k=>hashInt k
 | .inr x=>hashStr w x
theorem cU:∀ {k:Key} {v:Value},pZ k v=true->(∃ i t,k=Sum.inl i/\v=Value.int i t)\/(∃ x t,k=Sum.inr x/\v=Value.str x t)
 | .inl i,v,h=>by
  obtain⟨t,e⟩:=Value.isInt_shape (k:=i) (v:=v) h
  exact .inl ⟨i,t,rfl,e⟩
 | .inr x,v,h=>by
  obtain⟨t,e⟩:=Value.isStrOf_shape (x:=x) (v:=v) h
  exact .inr ⟨x,t,rfl,e⟩
theorem BO (i:Int)(t:Tok):pZ (.inl i) (.int i t)=true:=by simp[pZ,Value.isInt]
theorem BP (x:Str)(t:Tok):pZ (.inr x) (.str x t)=true:=by simp[pZ,Value.isStrOf]
theorem Il (a b:Int):decide ((Sum.inl a:Key)=Sum.inl b)=(a==b):=by
 by_cases e:a=b
 ·subst e;simp
 ·have h:¬ (Sum.inl a:Key)=Sum.inl b:=λ q=>e (Sum.inl.inj q)
  rw[decide_eq_false h]
  exact(beq_eq_false_iff_ne.mpr e).symm
theorem Im (a b:Str):decide ((Sum.inr a:Key)=Sum.inr b)=decide (a=b):=by
 by_cases e:a=b
 ·subst e;simp
 ·have h:¬ (Sum.inr a:Key)=Sum.inr b:=λ q=>e (Sum.inr.inj q)
  rw[decide_eq_false h,decide_eq_false e]
theorem Io (a:Int)(b:Str):decide ((Sum.inl a:Key)=Sum.inr b)=false:=decide_eq_false (λ q=>nomatch q)
theorem Ip (a:Str)(b:Int):decide ((Sum.inr a:Key)=Sum.inl b)=false:=decide_eq_false (λ q=>nomatch q)
noncomputable def cv (prog:Program)(w:World):PySem.KeyKind prog w Key where
 is:=pZ
 hash:=Mn w
 inj:=λ v a b ha hb=>by
  rcases cU ha with⟨i,t,rfl,rfl⟩ | ⟨x,t,rfl,rfl⟩
  ·rcases cU hb with⟨j,u,rfl,e⟩ | ⟨y,u,rfl,e⟩
   ·injection e with e1 _;rw[e1]
   ·exact nomatch e
  ·rcases cU hb with⟨j,u,rfl,e⟩ | ⟨y,u,rfl,e⟩
   ·exact nomatch e
   ·injection e with e1 _;rw[e1]
 byValue:=λ k v h=>by
  rcases cU h with⟨i,t,rfl,rfl⟩ | ⟨x,t,rfl,rfl⟩<;>rfl
 pyHash:=λ hv h=>by
  rcases cU hv with⟨i,t,rfl,rfl⟩ | ⟨x,t,rfl,rfl⟩
  ·exact wpAny_pyHash_int h
  ·exact wpAny_pyHash_str h
 eqBool:=λ hu hv h=>by
  rcases cU hu with⟨i,t,rfl,rfl⟩ | ⟨x,t,rfl,rfl⟩
  ·rcases cU hv with⟨j,u,rfl,rfl⟩ | ⟨y,u,rfl,rfl⟩
   ·rw[Il]at h;exact wpAny_eqBool_int h
   ·rw[Io]at h;exact SeqAt.EqAt.int_str i t y u _ _ _ _ h
  ·rcases cU hv with⟨j,u,rfl,rfl⟩ | ⟨y,u,rfl,rfl⟩
   ·rw[Ip]at h;exact SeqAt.EqAt.str_int x t j u _ _ _ _ h
   ·rw[Im]at h;exact wpAny_eqBool_str h
 «strs»:=λ k x t v h=>by
  rcases cU h with⟨i,u,rfl,e⟩ | ⟨y,u,rfl,e⟩
  ·exact nomatch e
  ·injection e with e1 _
   subst e1
   cases v<;>rfl
theorem wY (prog:Program)(w:World)(i:Int)(t:Tok):(cv prog w).is (.inl i) (.int i t)=true:=BO i t
theorem wZ (prog:Program)(w:World)(x:Str)(t:Tok):(cv prog w).is (.inr x) (.str x t)=true:=BP x t
inductive V where
 | non | bl (b:Bool) | int (i:Int) | str (x:Str) | byt (b:Array UInt8) | flt (b:UInt64) | ref (a:Addr) | ty (n:String)
 deriving DecidableEq
noncomputable def RelV:V->Value->Prop
 | .non,u=>u=Value.none
 | .bl b,u=>u=Value.bool b
 | .int i,u=>∃ t,u=Value.int i t
 | .str x,u=>∃ t,u=Value.str x t
 | .byt b,u=>∃ t,u=Value.bytes b t
 | .flt b,u=>∃ t,u=Value.float b t
 | .ref a,u=>u=Value.ref a
 | .ty n,u=>u=Value.type n
noncomputable abbrev Vals:List V->List Value->Prop:=Paired RelV
theorem Vals.length {xs:List V}{us:List Value}(r:Vals xs us):xs.length=us.length:=Paired.length r
theorem Vals.get:∀ {xs:List V} {us:List Value} {i:Nat} {x:V},Vals xs us->xs[i]?=some x->∃ u,us[i]?=some u/\RelV x u
 | _,_,_,_,.nil,e=>by simp at e
 | _,_,0,_,.cons r _,e=>by simp at e;subst e;exact⟨_,rfl,r⟩
 | _,_,i+1,x,.cons _ t,e=>by
  obtain⟨u,h1,h2⟩:=Vals.get (i:=i) (x:=x) t (by simpa using e)
  exact⟨u,by simpa using h1,h2⟩
theorem Vals.set {x:V}{u:Value}(r:RelV x u):∀ {xs:List V} {us:List Value} (i:Nat),Vals xs us->Vals (xs.set i x) (us.set i u)
 | _,_,_,.nil=>.nil
 | _,_,0,.cons _ t=>.cons r t
 | _,_,i+1,.cons q t=>.cons q (Vals.set r i t)
theorem Vals.append:∀ {xs ys:List V} {us ws:List Value},Vals xs us->Vals ys ws->Vals (xs++ys) (us++ws)
 | _,_,_,_,.nil,s=>s
 | _,_,_,_,.cons r t,s=>.cons r (Vals.append t s)
theorem Vals.take:∀ {xs:List V} {us:List Value} (n:Nat),Vals xs us->Vals (xs.take n) (us.take n)
 | _,_,0,_=>.nil
 | _,_,_+1,.nil=>.nil
 | _,_,n+1,.cons r t=>.cons r (Vals.take n t)
theorem Vals.drop:∀ {xs:List V} {us:List Value} (n:Nat),Vals xs us->Vals (xs.drop n) (us.drop n)
 | _,_,0,r=>r
 | _,_,_+1,.nil=>.nil
 | _,_,n+1,.cons _ t=>Vals.drop n t
noncomputable def oK:Option V->Option Value->Prop
 | some v,some u=>RelV v u
 | none,none=>True
 | _,_=>False
noncomputable def KV {κ:Type}:List (κ×V)->List (κ×Value)->Prop:=Paired λ(p:κ×V) (q:κ×Value)=>p.1=q.1/\RelV p.2 q.2
noncomputable def kV:Key->V
 | .inl i=>.int i
 | .inr x=>.str x
inductive HO where
 | lst (xs:List V)
 | tup (xs:List V)
 | dK (kvs:List (Key×V)) | dT (kvs:List (List Key×V))
 | set (S:Int->Bool) (n:Nat)
 | ins (C dx:Addr) (fs:List (Str×V))
 | own (x:Addr)
 | xd (fs:List (Str×V))
 | met (f x:Addr)
 | rng (lo hi:Int)
 | frz (o:Obj) (u:HO)
 | tbl (ps:Array Value)
 | ext (φ:Heap->Prop)
noncomputable abbrev Hp:=Addr->Option HO
noncomputable def upd (H:Hp)(a:Addr)(o:HO):Hp:=λ b=>if b=a then some o else H b
theorem aU {H:Hp}{a:Addr}{o:HO}:upd H a o a=some o:=by unfold upd;rw[ae rfl]
theorem aV {H:Hp}{a b:Addr}{o:HO}(h:b≠a):upd H a o b=H b:=by unfold upd;rw[af h]
theorem Az {H:Hp}{a:Addr}{o u:HO}:upd (upd H a o) a u=upd H a u:=by
 funext b;unfold upd;split<;>rfl
theorem Ks {H:Hp}{a b:Addr}{o u:HO}(h:H a=some o)(h':H b=some u)(d:o≠u):a≠b:=by
 intro e;subst e;rw[h]at h';exact d (ao h')
theorem bw {H:Hp}{a b:Addr}{o:HO}(h:H a=some o)(h':H b=none):a≠b:=by
 intro e;subst e;rw[h]at h';cases h'
section
variable (P:Program)(w:World)
noncomputable def cE (H:Hp)(h:Heap)(a:Addr):HO->Prop
 | .lst xs=>xs.length<=sizeLine/\∃ (its:List Value) (n:Nat),Vals xs its/\h.get? a=some {cls:=.type "list",data:=.seq its.toArray n}
 | .tup xs=>xs.length<=sizeLine/\∃ its:List Value,Vals xs its/\IsTup h a its.toArray
 | .dK kvs=>kvs.length<=sizeLine/\(a==sysModules)=false/\∃ vs,KV kvs vs/\h.DictOf (cv P w) a vs
 | .dT kvs=>kvs.length<=sizeLine/\(a==sysModules)=false/\∃ xs:List (List Key×Addr×Value),
   Paired (λ(p:List Key×V) (q:List Key×Addr×Value)=>p.1=q.1/\H q.2.1=some (.tup (p.1.map kV))/\RelV p.2 q.2.2) kvs xs /\
   ∃ o es ep,h.get? a=some o/\o.ExactDict/\o.data=.dict es ep/\es.toList=xs.map (entryOfKey (tupleKind (cv P w)))/\(xs.map (·.1)).Nodup
 | .set S n=>h.SetOf (intKind P w) a S n
 | .ins C dx fs=>H dx=some (.own a)/\fs.length<=1000/\dx≠a/\h.get? a=some (PySem.W.instObj C dx) /\
   ∃ mA,h.Ns1 dx mA/\(∀ f,oK (fs.lookup f) (mA f))/\PySem.Within mA (fs.map (·.1))
 | .own _=>∃ o,h.get? a=some o
 | .xd fs=>∃ mA,h.Ns1 a mA/\∀ f,oK (fs.lookup f) (mA f)
 | .rng lo hi=>∃ t u v,h.get? a=some {cls:=.type "range",data:=.fields #[.int lo t,.int hi u,.int 1 v]}
 | .frz o u=>h.get? a=some o/\cE H h a u
 | .tbl ps=>h.get? a=some {cls:=.none,data:=.fields ps}
 | .met f x=>h.get? a=some (PySem.W.methodObj (.ref f) (.ref x))
 | .ext φ=>φ h/\(∃ o,h.get? a=some o)/\∀ h1 h2:Heap,φ h1->(∀ o,h1.get? a=some o->h2.get? a=some o)->φ h2
noncomputable def HOk (H:Hp)(h:Heap):Prop:=∀ a o,H a=some o->cE P w H h a o
end
section
variable {P:Program}{w:World}{H H':Hp}{h h':Heap}{a:Addr}{o:HO}
theorem cE.lt (x:cE P w H h a o):a<h.objs.size:=by
 cases o with
 | lst xs=>obtain⟨_,_,_,_,e⟩:=x;exact au e
 | tup xs=>obtain⟨_,_,_,p⟩:=x;exact p.lt
 | dK kvs=>obtain⟨_,_,_,_,o,_,_,e,_⟩:=x;exact au e
 | dT kvs=>obtain⟨_,_,_,_,o,_,_,e,_⟩:=x;exact au e
 | set S n=>obtain⟨o,_,_,_,e,_⟩:=x;exact au e
 | ins C dx fs=>obtain⟨_,_,_,e,_⟩:=x;exact au e
 | own y=>obtain⟨_,e⟩:=x;exact au e
 | xd fs=>obtain⟨_,⟨_,_,_,e,_⟩,_⟩:=x;exact au e
 | rng lo hi=>obtain⟨_,_,_,e⟩:=x;exact au e
 | frz ob u=>obtain⟨e,_⟩:=x;exact au e
 | tbl ps=>exact au (show h.get? a=some _ from x)
 | met f y=>exact au (show h.get? a=some _ from x)
 | ext φ=>obtain⟨_,⟨_,e⟩,_⟩:=x;exact au e
theorem Paired.FH {α β:Type}{F G:α->β->Prop}:∀ {l₁:List α} {l₂:List β},Paired F l₁ l₂->(∀ a b,F a b->G a b)->Paired G l₁ l₂
 | _,_,.nil,_=>.nil
 | _,_,.cons r t,f=>.cons (f _ _ r) (Paired.FH t f)
theorem Paired.imp' {α β:Type}{F G:α->β->Prop}(f:∀ a b,F a b->G a b){l₁:List α}{l₂:List β}(r:Paired F l₁ l₂):Paired G l₁ l₂:=Paired.FH r f
theorem cE.tQ (x:cE P w H h a o)(k:∀ b u,(b=a\/H b=some (.own a))->h.get? b=some u->h'.get? b=some u)
  (ho:∀ b,H b=some (.own a)->H' b=some (.own a)) (ht:∀ b xs,H b=some (.tup xs)->H' b=some (.tup xs)):cE P w H' h' a o:=by
 induction o with
 | lst xs=>obtain⟨z,its,n,r,e⟩:=x;exact⟨z,its,n,r,k _ _ (.inl rfl) e⟩
 | tup xs=>obtain⟨z,its,r,ob,e,c⟩:=x;exact⟨z,its,r,ob,k _ _ (.inl rfl) e,c⟩
 | dK kvs=>obtain⟨z,y,vs,r,ob,es,ep,e,c⟩:=x;exact⟨z,y,vs,r,ob,es,ep,k _ _ (.inl rfl) e,c⟩
 | dT kvs =>
  obtain⟨z,y,xs,r,ob,es,ep,e,c⟩:=x
  exact⟨z,y,xs,Paired.FH r λ p q z=>⟨z.1,ht _ _ z.2.1,z.2.2⟩,ob,es,ep,k _ _ (.inl rfl) e,c⟩
 | set S n=>obtain⟨ob,es,ep,t,e,c⟩:=x;exact⟨ob,es,ep,t,k _ _ (.inl rfl) e,c⟩
 | ins C dx fs =>
  obtain⟨d,z,ne,e,mA,⟨od,es,ep,e2,c⟩,r⟩:=x
  exact⟨ho _ d,z,ne,k _ _ (.inl rfl) e,mA,⟨od,es,ep,k _ _ (.inr d) e2,c⟩,r⟩
 | own y=>obtain⟨ob,e⟩:=x;exact⟨ob,k _ _ (.inl rfl) e⟩
 | xd fs=>obtain⟨mA,⟨od,es,ep,e,c⟩,r⟩:=x;exact⟨mA,⟨od,es,ep,k _ _ (.inl rfl) e,c⟩,r⟩
 | rng lo hi=>obtain⟨t,u,v,e⟩:=x;exact⟨t,u,v,k _ _ (.inl rfl) e⟩
 | frz ob u ih=>obtain⟨e,q⟩:=x;exact⟨k _ _ (.inl rfl) e,ih q⟩
 | tbl ps =>
  have e:h.get? a=some {cls:=.none,data:=.fields ps}:=x
  show h'.get? a=some {cls:=.none,data:=.fields ps}
  exact k a _ (.inl rfl) e
 | met f y =>
  have e:h.get? a=some (PySem.W.methodObj (.ref f) (.ref y)):=x
  show h'.get? a=some (PySem.W.methodObj (.ref f) (.ref y))
  exact k a _ (.inl rfl) e
 | ext φ=>obtain⟨p,⟨o,e⟩,st⟩:=x;exact⟨st _ _ p λ o q=>k _ _ (.inl rfl) q,⟨o,k _ _ (.inl rfl) e⟩,st⟩
theorem HOk.lt (x:HOk P w H h)(e:H a=some o):a<h.objs.size:=(x a o e).lt
theorem HOk.fresh (x:HOk P w H h)(e:h.objs.size<=a):H a=none:=by
 cases q:H a with
 | none=>rfl
 | some u=>exact absurd (aB (x.lt q) e) (Nat.lt_irrefl _)
theorem HOk.kept (x:HOk P w H h)(k:∀ b u,h.get? b=some u->h'.get? b=some u):HOk P w H h':=λ a o e =>
 (x a o e).tQ (λ b u _ q=>k b u q) (λ _ q=>q) λ _ _ q=>q
theorem HOk.laid (x:HOk P w H h)(k:∀ b u,h.get? b=some u->h'.get? b=some u)(hp:h.objs.size<=a)(new:cE P w (upd H a o) h' a o):HOk P w (upd H a o) h':=λ b u e=>by
 have hn:=x.fresh hp
 by_cases hb:b=a
 ·subst hb;rw[aU]at e;cases e;exact new
 ·rw[aV hb]at e
  exact(x b u e).tQ (λ c v _ q=>k c v q) (λ c q=>by rw[aV (bw q hn)];exact q) λ c xs q=>by rw[aV (bw q hn)];exact q
end
noncomputable def Rd (H:Hp)(a:Addr)(u:HO):Prop:=H a=some u\/∃ o,H a=some (.frz o u)
theorem Rd.of {H:Hp}{a:Addr}{u:HO}(h:H a=some u):Rd H a u:=.inl h
theorem Rd.ok {P:Program}{w:World}{H:Hp}{h:Heap}{a:Addr}{u:HO}(r:Rd H a u)(x:HOk P w H h):cE P w H h a u:=by
 rcases r with r | ⟨o,r⟩
 ·exact x a u r
 ·obtain⟨_,q⟩:=x a _ r
  exact q
noncomputable def Mut:Option HO->Prop
 | some (.lst _)=>True
 | some (.dK _)=>True
 | some (.dT _)=>True
 | some (.set _ _)=>True
 | some (.ins _ _ _)=>True
 | some (.ext _)=>True
 | _=>False
section
variable {P:Program}{w:World}{H:Hp}{h h':Heap}{x e:Addr}{o':HO}
theorem HOk.write (ok:HOk P w H h)(mu:Mut (H x))(he:e=x\/H e=some (.own x))(k:∀ b u,b≠e->h.get? b=some u->h'.get? b=some u)(heo:∃ u,h'.get? e=some u)
  (new:cE P w (upd H x o') h' x o'):HOk P w (upd H x o') h':=λ b u q=>by
 have nown:∀ c y,H c=some (.own y)->c≠x:=λ c y r z=>by subst z;rw[r]at mu;exact mu
 have ntup:∀ c xs,H c=some (.tup xs)->c≠x:=λ c xs r z=>by subst z;rw[r]at mu;exact mu
 by_cases hb:b=x
 ·subst hb;rw[aU]at q;cases q;exact new
 ·rw[aV hb]at q
  by_cases hbe:b=e
  ·have q':H b=some (.own x):=by
    rcases he with z | z
    ·exact absurd (hbe.trans z) hb
    ·rw[hbe];exact z
   rw[q]at q';cases q'
   obtain⟨v,hv⟩:=heo
   exact⟨v,by rw[hbe];exact hv⟩
  ·refine(ok b u q).tQ (λ c v hc r=>k c v ?_ r) (λ c r=>by rw[aV (nown c b r)];exact r) λ c xs r=>by rw[aV (ntup c xs r)];exact r
   rcases hc with rfl | hc
   ·exact hbe
   ·rintro rfl
    rcases he with z | z
    ·exact nown c b hc z
    ·rw[hc]at z;cases z;exact hb rfl
end
structure Un (fs ex:List Addr)(H H':Hp)(h h':Heap):Prop where
 keep:∀ b o,h.get? b=some o->H b=none->b∉fs->b∉ex->h'.get? b=some o
 slot:∀ b o,h.get? b=some o->H b=none->b∈fs->b∉ex->∃ sl,h'.get? b=some {o with slots:=sl}
 free:∀ b o,h.get? b=some o->H b=none->b∉ex->H' b=none
 there:∀ b o,h.get? b=some o->b∉ex->∃ o',h'.get? b=some o'
 jE:∀ b xs,H b=some (.tup xs)->H' b=some (.tup xs)
 jn:∀ b o u,H b=some (.frz o u)->H' b=some (.frz o u)
 mJ:∀ b ps,H b=some (.tbl ps)->∃ more,H' b=some (.tbl (ps++more))
section
variable {fs fs' ex ex':List Addr}{H H1 H2:Hp}{h h1 h2 h':Heap}{a x e:Addr}{o:HO}
theorem Un.any (u:Un fs ex H H1 h h1){b:Addr}{ob:Obj}(q:h.get? b=some ob)(n:H b=none)(hx:b∉ex):∃ sl,h1.get? b=some {ob with slots:=sl}:=by
 by_cases hb:b∈fs
 ·exact u.slot b ob q n hb hx
 ·exact⟨ob.slots,u.keep b ob q n hb hx⟩
theorem Un.trans (a:Un fs ex H H1 h h1)(b:Un fs ex H1 H2 h1 h2):Un fs ex H H2 h h2 where
 keep:=λ c ob q n hc hx=>b.keep c ob (a.keep c ob q n hc hx) (a.free c ob q n hx) hc hx
 slot:=λ c ob q n hc hx=>by
  obtain⟨sl,e1⟩:=a.slot c ob q n hc hx
  obtain⟨sl',e2⟩:=b.slot c _ e1 (a.free c ob q n hx) hc hx
  exact⟨sl',e2⟩
 free:=λ c ob q n hx=>by
  obtain⟨o',e1⟩:=a.there c ob q hx
  exact b.free c o' e1 (a.free c ob q n hx) hx
 there:=λ c ob q hx=>by
  obtain⟨o',e1⟩:=a.there c ob q hx
  exact b.there c o' e1 hx
 jE:=λ c xs q=>b.jE c xs (a.jE c xs q)
 jn:=λ c ob xs q=>b.jn c ob xs (a.jn c ob xs q)
 mJ:=λ c ps q=>by
  obtain⟨m1,e1⟩:=a.mJ c ps q
  obtain⟨m2,e2⟩:=b.mJ c _ e1
  exact⟨m1++m2,by rw[e2,Array.append_assoc]⟩
theorem Un.kept (k:∀ b u,h.get? b=some u->h'.get? b=some u):Un fs ex H H h h' :=
 ⟨λ b ob q _ _ _=>k b ob q,λ b ob q _ _ _=>⟨ob.slots,k b ob q⟩,λ _ _ _ n _=>n,λ b ob q _=>⟨ob,k b ob q⟩,λ _ _ q=>q,λ _ _ _ q=>q,λ _ ps q=>⟨#[],by rw[q];simp⟩⟩
theorem Un.refl:Un fs ex H H h h:=Un.kept λ _ _ q=>q
theorem Un.laid (k:∀ b u,h.get? b=some u->h'.get? b=some u)(hp:h.objs.size<=a)(hn:H a=none):Un fs ex H (upd H a o) h h' where
 keep:=λ b u q _ _ _=>k b u q
 slot:=λ b u q _ _ _=>⟨u.slots,k b u q⟩
 free:=λ b u q n _=>by rw[aV (Nat.ne_of_lt (aB (au q) hp))];exact n
 there:=λ b u q _=>⟨u,k b u q⟩
 jE:=λ b xs q=>by rw[aV (bw q hn)];exact q
 jn:=λ b u xs q=>by rw[aV (bw q hn)];exact q
 mJ:=λ b ps q=>⟨#[],by rw[aV (bw q hn),q];simp⟩
theorem Un.write (mu:Mut (H x))(he:e=x\/H e=some (.own x))(k:∀ b u,b≠e->h.get? b=some u->h'.get? b=some u)(heo:∃ u,h'.get? e=some u):Un fs ex H (upd H x o) h h':=by
 have hx:∀ b,H b=none->b≠x:=λ b n z=>by subst z;rw[n]at mu;exact mu
 have hb:∀ b,H b=none->b≠e:=λ b n z=>by
  subst z
  rcases he with r | r
  ·exact hx b n r
  ·rw[n]at r;cases r
 have hm:∀ b u,H b=some u->¬ Mut (some u)->b≠x:=λ b u q nm z=>by subst z;rw[q]at mu;exact nm mu
 refine⟨λ b u q n _ _=>k b u (hb b n) q,λ b u q n _ _=>⟨u.slots,k b u (hb b n) q⟩,λ b u q n _=>by rw[aV (hx b n)];exact n,λ b u q _=>?_,
  λ b xs q=>by rw[aV (hm b _ q λ z=>z)];exact q,λ b u xs q=>by rw[aV (hm b _ q λ z=>z)];exact q,λ b ps q=>⟨#[],by rw[aV (hm b _ q λ z=>z),q];simp⟩⟩
 by_cases hbe:b=e
 ·subst hbe;exact heo
 ·exact⟨u,k b u hbe q⟩
theorem Un.mono (u:Un fs ex H H1 h h1)(hs:∀ b∈fs,b∈fs')(hx:∀ b∈ex,b∈ex'):Un fs' ex' H H1 h h1 :=
 ⟨λ b ob q n hb he=>u.keep b ob q n (λ z=>hb (hs b z)) λ z=>he (hx b z),λ _ _ q n _ he=>u.any q n λ z=>he (hx _ z),λ b ob q n he=>u.free b ob q n λ z=>he (hx b z),λ b ob q he=>u.there b ob q λ z=>he (hx b z),u.jE,u.jn,u.mJ⟩
end
noncomputable def trk (h:Heap)(H:Hp):List Addr:=(List.range h.objs.size).filter λ a=>(H a).isSome
noncomputable def vb (h:Heap)(H:Hp):Heap:=PySem.W.hideAll h (trk h H)
theorem BQ (h:Heap)(H:Hp):(vb h H).objs.size=h.objs.size:=PySem.W.hideAll_size _ _
theorem C6 {h:Heap}{H:Hp}{b:Addr}{o:Obj}(e:h.get? b=some o)(n:H b=none):(vb h H).get? b=some o :=
 PySem.W.hideAll_get _ e λ hm=>by
  have q:(H b).isSome=true:=(List.mem_filter.mp hm).2
  rw[n]at q;simp at q
theorem FI {h:Heap}{H:Hp}{b:Addr}{o:Obj}(e:(vb h H).get? b=some o):h.get? b=some o/\H b=none:=by
 have e':h.get? b=some o:=PySem.W.of_hideAll (trk h H) e
 refine⟨e',?_⟩
 cases q:H b with
 | none=>rfl
 | some x =>
  have hm:b∈trk h H:=List.mem_filter.mpr ⟨ay.mpr (au e'),by simp[q]⟩
  have z:(vb h H).get? b=none:=PySem.W.hideAll_none (trk h H) hm
  rw[z]at e;cases e
noncomputable def jQ (g h:Heap)(L:Addr):List (Addr×Obj):=(List.range h.objs.size).filterMap λ a=>if a=L\/(g.get? a).isSome=true then none else (h.get? a).map λ o=>(a,o)
theorem w6 {g h:Heap}{L a:Addr}{o:Obj}(h1:a≠L)(h2:g.get? a=none)(h3:h.get? a=some o):(a,o)∈jQ g h L :=
 List.mem_filterMap.mpr ⟨a,ay.mpr (au h3),by simp[h1,h2,h3]⟩
set_option tactic.hygienic true in
theorem iA {g h:Heap}{L:Addr}{p:Addr×Obj}(hp:p∈jQ g h L):p.1≠L/\g.get? p.1=none/\h.get? p.1=some p.2:=by
 obtain⟨b,_,e⟩:=List.mem_filterMap.mp hp
 split at e
 ·cases e
 ·rename_i hn
  cases q:h.get? b with
  | none=>rw[q]at e;simp at e
  | some u =>
   rw[q]at e
   simp only[Option.map_some,Option.some.injEq]at e
   subst e
   refine⟨λ z=>hn (.inl z),?_,q⟩
   show g.get? b=none
   cases r:g.get? b with
   | none=>rfl
   | some v=>exact(hn (.inr (by simp[r]))).elim
noncomputable def rest (g h:Heap)(L d:Addr):List (Addr×Obj):=(jQ g h L).filter λ p=>decide (p.1≠d)
structure Mod (K:PySem.W.Frag)(mg:Str->Option Value)(base:Heap):Prop where
 kin:K.In base
 glob:base.Ns mainGlobals mg
 blt:∃ mb,base.Ns builtinsNs mb/\∀ x:Str,x≠"__name__"->mb x=bootBuiltins x
 nolimit:base.NoLimit
set_option genInjectivity false in
set_option genSizeOf false in
structure Cx where
 prog:Program
 w:World
 K:PySem.W.Frag
 mg:Str->Option Value
 base:Heap
 A:Around
 N:List Str
 s₀:Shared
 H₀:Hp
 env:Env
 outer:List Env
 stack:List Env
 ex:List Addr
 fn:Str->Bool
 calm:Bool
 pn:List (Addr×Obj)
 xe:Value->Shared->Prop
noncomputable def frs (l:List Env):List Addr:=l.filterMap (·.frame)
noncomputable abbrev Cx.fs (X:Cx):List Addr:=frs X.outer
noncomputable def Vis (sc:Scope)(x:Str):Prop:=sc.names.lookup x=some .local\/sc.names.lookup x=some .cell\/sc.names.lookup x=some .free
noncomputable def Loc (sc:Scope)(x:Str):Prop:=sc.names.lookup x=some .local\/sc.names.lookup x=some .cell
noncomputable def Look (env:Env)(h:Heap)(m:Str->Option Value)(x:Str)(u:Value):Prop :=
 (env.kindOf x=some .local/\m x=some u)\/((env.kindOf x=some .cell\/env.kindOf x=some .free)/\∃ c,env.cells.lookup x=some c/\h.IsCell c (some u))
structure Cx.Ok (X:Cx):Prop where
 mod:Mod X.K X.mg X.base
 kind:X.env.scope.kind=.function
 glob:X.env.globals=mainGlobals
 blt:X.env.builtins=builtinsNs
 above:X.s₀.heap.objs.size<=X.env.locals
 inj:∀ x y c,X.env.cells.lookup x=some c->X.env.cells.lookup y=some c->x=y
 has:∀ x,(X.env.kindOf x=some .cell\/X.env.kindOf x=some .free)->∃ c,X.env.cells.lookup x=some c
 cab:∀ x c,X.fn x=true->X.env.cells.lookup x=some c->X.s₀.heap.objs.size<=c
 hd:X.calm=true->X.A.handled=none
 frames:X.A.frames=some X.stack
 stk:X.stack=X.outer\/(X.stack=X.env::X.outer/\X.env.frame=some X.env.locals)
 exf:∀ b∈X.ex,b≠X.env.locals/\∀ x c,X.env.cells.lookup x=some c->c≠b
 bs:∀ b o,X.base.get? b=some o->X.s₀.heap.get? b=some o/\X.H₀ b=none
 bsz:X.base.objs.size<=X.s₀.heap.objs.size
 BR:∀ b o,X.base.get? b=some o->b∉X.ex
 FJ:∀ b∈X.ex,b∉X.fs
 qr:X.s₀.heap.FunFrames X.base X.outer
 frf:∀ b∈X.fs,X.H₀ b=none
structure Inv (X:Cx)(pins:List (Addr×Obj))(σ:List (Option V))(H:Hp)(s:Shared):Prop where
 ok:X.Ok
 os:s.os=X.s₀.os
 bare:AllBare s.gens
 base:Un X.fs X.ex X.H₀ H X.s₀.heap s.heap
 loc:∃ m,s.heap.Ns X.env.locals m/\∀ (i:Nat) (x:Str) (v:V),X.N[i]?=some x->σ[i]?=some (some v)->Vis X.env.scope x->∃ u,RelV v u/\Look X.env s.heap m x u
 cell:∀ x c,X.env.cells.lookup x=some c->∃ v,s.heap.IsCell c v
 free:H X.env.locals=none
 g9:∀ x c,X.env.cells.lookup x=some c->H c=none
 pin:∀ p∈X.pn++pins,s.heap.get? p.1=some p.2/\H p.1=none/\p.1≠X.env.locals/\p.1∉X.fs/\∀ v,p.2.data≠.cell v
 hok:HOk X.prog X.w H s.heap
 len:σ.length=X.N.length
section
variable {X:Cx}{pins:List (Addr×Obj)}{σ:List (Option V)}{H H':Hp}{s:Shared}{h':Heap}
theorem Cx.Ok.Mo (ok:X.Ok){b:Addr}{o:Obj}(e:X.base.get? b=some o):b∉X.fs:=λ hb=>by
 have:=(ok.qr.mem hb).1
 rw[e]at this;cases this
theorem Inv.bs (I:Inv X pins σ H s):∀ b o,X.base.get? b=some o->s.heap.get? b=some o/\H b=none:=λ b o e =>
 ⟨I.base.keep b o (I.ok.bs b o e).1 (I.ok.bs b o e).2 (I.ok.Mo e) (I.ok.BR b o e),I.base.free b o (I.ok.bs b o e).1 (I.ok.bs b o e).2 (I.ok.BR b o e)⟩
theorem Inv.bk (I:Inv X pins σ H s):∀ b o,X.base.get? b=some o->s.heap.get? b=some o:=λ b o e=>(I.bs b o e).1
theorem Inv.mod (I:Inv X pins σ H s):Mod X.K X.mg X.base:=I.ok.mod
theorem Inv.kIn (I:Inv X pins σ H s):X.K.In s.heap:=I.ok.mod.kin.keeps I.bk
theorem Inv.nolimit (I:Inv X pins σ H s):s.heap.NoLimit:=I.ok.mod.nolimit.keeps I.bk
theorem Inv.fr (I:Inv X pins σ H s):∃ m,Fr X.base X.env.locals s.heap m :=
 let ⟨m,hn,_⟩:=I.loc
 ⟨m,hn,I.bk,Nat.le_trans I.ok.bsz I.ok.above⟩
theorem Inv.lt (I:Inv X pins σ H s):X.env.locals<s.heap.objs.size:=let ⟨_,hn,_⟩:=I.loc;hn.lt
theorem Inv.sz (I:Inv X pins σ H s):X.s₀.heap.objs.size<=s.heap.objs.size:=Nat.le_trans I.ok.above (Nat.le_of_lt I.lt)
theorem Inv.Mp (I:Inv X pins σ H s){a:Addr}(h:s.heap.objs.size<=a):a∉X.fs:=λ hb=>by
 obtain⟨_,o,ho,_⟩:=I.ok.qr.mem hb
 exact absurd (aB (au ho) (Nat.le_trans I.sz h)) (Nat.lt_irrefl _)
theorem Inv.cne (I:Inv X pins σ H s):∀ x c,X.env.cells.lookup x=some c->c≠X.env.locals:=λ x c e z=>by
 obtain⟨v,o,ho,hd⟩:=I.cell x c e
 obtain⟨m,⟨o',es,ep,ho',hd',_⟩,_⟩:=I.loc
 rw[z,ho']at ho;cases ho;rw[hd']at hd;cases hd
theorem Inv.qr (I:Inv X pins σ H s):s.heap.FunFrames X.base X.outer:=by
 have all:∀ (l:List Env),(∀ b∈frs l,b∈X.fs)->X.s₀.heap.FunFrames X.base l->s.heap.FunFrames X.base l:=by
  intro l
  induction l with
  | nil=>intro _ _;trivial
  | cons env r ih =>
   intro hs hl
   obtain⟨hk,⟨L,o,hf,hn,ho,hd⟩,hr⟩:=hl
   have hL:L∈X.fs:=hs L (by unfold frs;rw[List.filterMap_cons,hf];exact ai)
   obtain⟨sl,e⟩:=I.base.slot L o ho (I.ok.frf L hL) hL λ z=>I.ok.FJ L z hL
   exact⟨hk,⟨L,_,hf,hn,e,hd⟩,ih (λ b hb=>hs b (by unfold frs;rw[List.filterMap_cons,hf];exact ak _ hb)) hr⟩
 exact all X.outer (λ _ hb=>hb) I.ok.qr
theorem Inv.stack (I:Inv X pins σ H s):s.heap.FunFrames X.base X.stack:=by
 rcases I.ok.stk with e | ⟨e,hf⟩
 ·rw[e];exact I.qr
 ·rw[e]
  obtain⟨m,hn,_⟩:=I.loc
  refine .cons (by rw[I.ok.kind];decide) hf hn ?_ I.qr
  exact Heap.get?_none_of_le (Nat.le_trans I.ok.bsz I.ok.above)
theorem Inv.vc (I:Inv X pins σ H s):∀ b∈frs X.stack,b∈X.env.locals::X.fs:=λ b hb=>by
 rcases I.ok.stk with e | ⟨e,hf⟩
 ·rw[e]at hb;exact ak _ hb
 ·rw[e]at hb
  unfold frs at hb
  rw[List.filterMap_cons,hf]at hb
  exact hb
theorem Inv.AA (I:Inv X pins σ H s):∀ b∈frs X.stack,H b=none:=λ b hb=>by
 rcases ar.mp (I.vc b hb) with e | hb
 ·rw[e];exact I.free
 ·obtain⟨_,o,ho,_⟩:=I.ok.qr.mem hb
  exact I.base.free b o ho (I.ok.frf b hb) λ z=>I.ok.FJ b z hb
theorem Inv.step {g':Array GenState}{t':Nat}{d':Drawn}{ch:List Addr}(I:Inv X pins σ H s)
  (hch:∀ b∈ch,(b∈X.ex\/X.s₀.heap.objs.size<=b)/\b≠X.env.locals/\(∀ x c,X.env.cells.lookup x=some c->c≠b)/\∀ p∈X.pn++pins,p.1≠b)
  (keep:∀ b o,b≠X.env.locals->b∉X.fs->b∉ch->s.heap.get? b=some o->H b=none->h'.get? b=some o)
  (slot:∀ b o,b≠X.env.locals->b∈X.fs->b∉ch->s.heap.get? b=some o->H b=none->∃ sl,h'.get? b=some {o with slots:=sl}) (free:∀ b o,b∉ch->s.heap.get? b=some o->H b=none->H' b=none)
  (there:∀ b o,b∉ch->s.heap.get? b=some o->∃ o',h'.get? b=some o')
  (jE:∀ b xs,H b=some (.tup xs)->H' b=some (.tup xs)) (jn:∀ b o u,H b=some (.frz o u)->H' b=some (.frz o u)) (mJ:∀ b ps,H b=some (.tbl ps)->∃ more,H' b=some (.tbl (ps++more)))
  (ns:∀ m,s.heap.Ns X.env.locals m->h'.Ns X.env.locals m) (hok:HOk X.prog X.w H' h') (hg:AllBare g') :
  Inv X pins σ H' {s with heap:=h',gens:=g',drawn:=d',toks:=t'}:=by
 have neL:∀ b o,X.s₀.heap.get? b=some o->b≠X.env.locals:=λ b o e=>Nat.ne_of_lt (aB (au e) I.ok.above)
 have neC:∀ b o,X.s₀.heap.get? b=some o->b∉X.ex->b∉ch:=λ b o e hx hb=>by
  rcases (hch b hb).1 with z | z
  ·exact hx z
  ·exact absurd (aB (au e) z) (Nat.lt_irrefl _)
 have cellK:∀ x c,X.env.cells.lookup x=some c->∀ v,s.heap.IsCell c v->h'.IsCell c v:=λ x c e v ⟨o,ho,hd⟩=>by
  have nch:c∉ch:=λ z=>(hch c z).2.2.1 x c e rfl
  by_cases hc:c∈X.fs
  ·obtain⟨sl,q⟩:=slot c o (I.cne x c e) hc nch ho (I.g9 x c e)
   exact⟨_,q,hd⟩
  ·exact⟨o,keep c o (I.cne x c e) hc nch ho (I.g9 x c e),hd⟩
 refine⟨I.ok,I.os,hg,⟨λ b o e n hb hx=>?_,λ b o e n hb hx=>?_,λ b o e n hx=>?_,λ b o e hx=>?_,λ b xs e=>jE b xs (I.base.jE b xs e),λ b o xs e=>jn b o xs (I.base.jn b o xs e),λ b ps e=>?_⟩,?_,λ x c e=>?_,?_,λ x c e=>?_,λ p hp=>?_,hok,I.len⟩
 ·exact keep b o (neL b o e) hb (neC b o e hx) (I.base.keep b o e n hb hx) (I.base.free b o e n hx)
 ·obtain⟨sl,e1⟩:=I.base.slot b o e n hb hx
  obtain⟨sl',e2⟩:=slot b _ (neL b o e) hb (neC b o e hx) e1 (I.base.free b o e n hx)
  exact⟨sl',e2⟩
 ·obtain⟨o',e1⟩:=I.base.there b o e hx
  exact free b o' (neC b o e hx) e1 (I.base.free b o e n hx)
 ·obtain⟨o',e1⟩:=I.base.there b o e hx
  exact there b o' (neC b o e hx) e1
 ·obtain⟨m1,e1⟩:=I.base.mJ b ps e
  obtain⟨m2,e2⟩:=mJ b _ e1
  exact⟨m1++m2,by rw[e2,Array.append_assoc]⟩
 ·obtain⟨m,hn,hl⟩:=I.loc
  refine⟨m,ns m hn,λ i x v e1 e2 e3=>?_⟩
  obtain⟨u,r,l⟩:=hl i x v e1 e2 e3
  refine⟨u,r,?_⟩
  rcases l with l | ⟨k,c,e,z⟩
  ·exact .inl l
  ·exact .inr ⟨k,c,e,cellK x c e _ z⟩
 ·obtain⟨v,z⟩:=I.cell x c e
  exact⟨v,cellK x c e v z⟩
 ·obtain⟨m,⟨o,_,_,ho,_⟩,_⟩:=I.loc
  exact free _ o (λ z=>(hch _ z).2.1 rfl) ho I.free
 ·obtain⟨v,o,ho,hd⟩:=I.cell x c e
  exact free c o (λ z=>(hch c z).2.2.1 x c e rfl) ho (I.g9 x c e)
 ·obtain⟨e,n,ne,nf,d⟩:=I.pin p hp
  have nch:p.1∉ch:=λ z=>(hch p.1 z).2.2.2 p hp rfl
  exact⟨keep p.1 p.2 ne nf nch e n,free p.1 p.2 nch e n,ne,nf,d⟩
theorem Inv.un {t':Nat}(I:Inv X pins σ H s)(u:Un X.fs [] H H' s.heap h')(hok:HOk X.prog X.w H' h'):Inv X pins σ H' {s with heap:=h',toks:=t'}:=by
 obtain⟨m,⟨o,es,ep,ho,r⟩,_⟩:=id I.loc
 obtain⟨sl,hL⟩:=u.any ho I.free (by simp)
 exact I.step (g':=s.gens) (d':=s.drawn) (ch:=[]) (λ _ z=>nomatch z) (λ b o _ hb _ e n=>u.keep b o e n hb (by simp)) (λ b o _ hb _ e n=>u.slot b o e n hb (by simp)) (λ b o _ e n=>u.free b o e n (by simp)) (λ b o _ e=>u.there b o e (by simp)) u.jE u.jn u.mJ (λ m' hm=>by
  obtain⟨o',es',ep',ho',r'⟩:=hm
  rw[ho]at ho';cases ho'
  exact⟨_,es',ep',hL,r'⟩) hok I.bare
theorem Inv.call {g':Array GenState}{t':Nat}{d':Drawn}{ch:List Addr}(I:Inv X pins σ H s)(u:Un (frs X.stack) ch H H' s.heap h')(hok:HOk X.prog X.w H' h')(hg:AllBare g')
  (hch:∀ b∈ch,(b∈X.ex\/X.s₀.heap.objs.size<=b)/\b≠X.env.locals/\(∀ x c,X.env.cells.lookup x=some c->c≠b)/\∀ p∈X.pn++pins,p.1≠b) :
  Inv X pins σ H' {s with heap:=h',gens:=g',drawn:=d',toks:=t'}:=by
 obtain⟨m,⟨o,es,ep,ho,r⟩,_⟩:=id I.loc
 obtain⟨sl,hL⟩:=u.any ho I.free λ z=>(hch _ z).2.1 rfl
 exact I.step (ch:=ch) hch (λ b o hL hb hc e n=>u.keep b o e n (λ z=>(ar.mp (I.vc b z)).elim hL hb) hc) (λ b o _ _ hc e n=>u.any e n hc) (λ b o hc e n=>u.free b o e n hc) (λ b o hc e=>u.there b o e hc) u.jE u.jn u.mJ (λ m' hm=>by
  obtain⟨o',es',ep',ho',r'⟩:=hm
  rw[ho]at ho';cases ho'
  exact⟨_,es',ep',hL,r'⟩) hok hg
theorem Inv.turned {t':Nat}{it:Addr}(I:Inv X pins σ H s)(k:∀ b o,b≠it->s.heap.get? b=some o->h'.get? b=some o)(hn:H it=none)(hL:it≠X.env.locals)
  (h1:it∈X.ex\/X.s₀.heap.objs.size<=it) (h2:∀ x c,X.env.cells.lookup x=some c->c≠it) (h3:∀ p∈X.pn++pins,p.1≠it):Inv X pins σ H {s with heap:=h',toks:=t'}:=by
 have nit:∀ b u,H b=some u->b≠it:=λ b u e z=>by rw[z,hn]at e;cases e
 refine I.step (g':=s.gens) (d':=s.drawn) (ch:=[it]) (λ b hb=>?_) (λ b o _ _ hc e _=>k b o (λ z=>hc (by simp[z])) e) (λ b o _ _ hc e _=>⟨o.slots,k b o (λ z=>hc (by simp[z])) e⟩) (λ _ _ _ _ n=>n)
  (λ b o hc e=>⟨o,k b o (λ z=>hc (by simp[z])) e⟩) (λ _ _ e=>e) (λ _ _ _ e=>e) (λ b ps e=>⟨#[],by rw[e];simp⟩) (λ m hm=>?_) (λ b u e=>?_) I.bare
 ·have e:b=it:=by simpa using hb
  subst e
  exact⟨h1,hL,h2,h3⟩
 ·obtain⟨o,es,ep,ho,r⟩:=hm
  exact⟨o,es,ep,k _ o (Ne.symm hL) ho,r⟩
 ·refine(I.hok b u e).tQ (λ c v hc q=>k c v ?_ q) (λ _ q=>q) λ _ _ q=>q
  rcases hc with z | z
  ·rw[z];exact nit b u e
  ·exact nit c _ z
theorem Inv.tok (I:Inv X pins σ H s)(t:Nat):Inv X pins σ H {s with toks:=t}:=I.un (h':=s.heap) (t':=t) Un.refl I.hok
theorem Inv.kept {t':Nat}(I:Inv X pins σ H s)(k:∀ b u,s.heap.get? b=some u->h'.get? b=some u):Inv X pins σ H {s with heap:=h',toks:=t'}:=I.un (Un.kept k) (I.hok.kept k)
theorem Inv.laid {a:Addr}{o:HO}{t':Nat}(I:Inv X pins σ H s)(k:∀ b u,s.heap.get? b=some u->h'.get? b=some u)(hp:s.heap.objs.size<=a)(new:cE X.prog X.w (upd H a o) h' a o) :
  Inv X pins σ (upd H a o) {s with heap:=h',toks:=t'}:=I.un (Un.laid k hp (I.hok.fresh hp)) (I.hok.laid k hp new)
theorem Inv.write {x e:Addr}{o:HO}{t':Nat}(I:Inv X pins σ H s)(mu:Mut (H x))(he:e=x\/H e=some (.own x))(k:∀ b u,b≠e->s.heap.get? b=some u->h'.get? b=some u)(heo:∃ u,h'.get? e=some u)
  (new:cE X.prog X.w (upd H x o) h' x o):Inv X pins σ (upd H x o) {s with heap:=h',toks:=t'}:=I.un (Un.write mu he k heo) (I.hok.write mu he k heo new)
theorem Inv.weak {σ':List (Option V)}(I:Inv X pins σ H s)(hl:σ'.length=σ.length)(w:∀ (i:Nat) v,σ'[i]?=some (some v)->σ[i]?=some (some v)):Inv X pins σ' H s :=
 ⟨I.ok,I.os,I.bare,I.base,let ⟨m,hn,hl'⟩:=I.loc;⟨m,hn,λ i x v e1 e2 e3=>hl' i x v e1 (w i v e2) e3⟩,I.cell,I.free,I.g9,I.pin,I.hok,hl.trans I.len⟩
theorem Inv.qL {pins':List (Addr×Obj)}(I:Inv X pins σ H s)(h:∀ p∈pins',s.heap.get? p.1=some p.2/\H p.1=none/\p.1≠X.env.locals/\p.1∉X.fs/\∀ v,p.2.data≠.cell v):Inv X pins' σ H s :=
 ⟨I.ok,I.os,I.bare,I.base,I.loc,I.cell,I.free,I.g9,λ p hp=>(List.mem_append.mp hp).elim (λ z=>I.pin p (List.mem_append_left _ z)) (h p),I.hok,I.len⟩
theorem w9 {N:List Str}(hN:N.Nodup){i j:Nat}{x:Str}(a:N[i]?=some x)(b:N[j]?=some x):i=j:=by
 obtain⟨h1,e1⟩:=List.getElem?_eq_some_iff.mp a
 obtain⟨h2,e2⟩:=List.getElem?_eq_some_iff.mp b
 exact(List.getElem_inj hN).mp (e1.trans e2.symm)
theorem uv {M:Model}{A:Around}{E:Value->Shared->Prop}{i:Nat}{x:Str}{v:V}{u:Value}{Q:Unit->Shared->Prop}(I:Inv X pins σ H s)(hN:X.N.Nodup)(hi:X.N[i]?=some x)(hx:Loc X.env.scope x)(r:RelV v u)
  (h:∀ s',Inv X pins (σ.set i (some v)) H s'->(∃ a,Heap.SameBut a s.heap s'.heap/\(a=X.env.locals\/X.env.cells.lookup x=some a))->Q () s') (hf:X.fn x=true\/X.env.scope.names.lookup x=some .local):wpAny M A (storeName X.env x u) Q E s:=by
 obtain⟨m,hn,hl⟩:=id I.loc
 have hcls:(X.env.scope.kind==.class || (X.env.scope.kind==.module&&X.env.locals != X.env.globals))=false:=by rw[I.ok.kind];rfl
 have hiσ:i<σ.length:=by rw[I.len];exact(List.getElem?_eq_some_iff.mp hi).1
 have cne:=I.cne
 have tracked:∀ {a:Addr} {h':Heap},(∃ o,s.heap.get? a=some o/\H a=none)->Heap.SameBut a s.heap h'->HOk X.prog X.w H h':=λ{a h'} ha hs b ob e=>by
  obtain⟨_,_,hfree⟩:=ha
  refine(I.hok b ob e).tQ (λ c w' hc q=>(hs.2 c ?_).trans q) (λ _ q=>q) λ _ _ q=>q
  rintro rfl
  rcases hc with rfl | hc
  ·rw[hfree]at e;cases e
  ·rw[hfree]at hc;cases hc
 rcases hx with hk | hk
 ·refine wpAny_storeName_local hk hn (λ h' hn' hs=>?_) hcls
  obtain⟨oL,_,_,hoL,_⟩:=id hn
  refine h _ ⟨I.ok,I.os,I.bare,⟨λ b o e n hb hx=>?_,λ b o e n hb hx=>?_,I.base.free,λ b o e hx=>?_,I.base.jE,I.base.jn,I.base.mJ⟩,⟨_,hn',λ j y v' e1 e2 e3=>?_⟩,λ y c e=>?_,I.free,I.g9,λ p hp=>?_,tracked ⟨oL,hoL,I.free⟩ hs,by simpa using I.len⟩ ⟨_,hs,.inl rfl⟩
  ·exact(hs.2 b (Nat.ne_of_lt (aB (au e) I.ok.above))).trans (I.base.keep b o e n hb hx)
  ·obtain⟨sl,e1⟩:=I.base.slot b o e n hb hx
   exact⟨sl,(hs.2 b (Nat.ne_of_lt (aB (au e) I.ok.above))).trans e1⟩
  ·obtain⟨o',e1⟩:=I.base.there b o e hx
   exact⟨o',(hs.2 b (Nat.ne_of_lt (aB (au e) I.ok.above))).trans e1⟩
  ·by_cases hj:j=i
   ·subst hj
    rw[hi]at e1;cases e1
    rw[List.getElem?_set_self hiσ]at e2
    cases e2
    exact⟨u,r,.inl ⟨hk,by simp⟩⟩
   ·rw[List.getElem?_set_ne (Ne.symm hj)]at e2
    obtain⟨u',r',q⟩:=hl j y v' e1 e2 e3
    refine⟨u',r',?_⟩
    rcases q with⟨k,e⟩ | ⟨k,c,e,z⟩
    ·refine .inl ⟨k,?_⟩
     have:y≠x:=λ e=>hj (w9 hN e1 (e▸hi))
     simp[this,e]
    ·exact .inr ⟨k,c,e,z.sameBut hs (cne y c e)⟩
  ·obtain⟨w',z⟩:=I.cell y c e
   exact⟨w',z.sameBut hs (cne y c e)⟩
  ·obtain⟨e,n,ne,nf,d⟩:=I.pin p hp
   exact⟨(hs.2 p.1 ne).trans e,n,ne,nf,d⟩
 ·have hfn:X.fn x=true:=by
   rcases hf with z | z
   ·exact z
   ·rw[z]at hk;cases hk
  obtain⟨c,hc⟩:=I.ok.has x (.inl hk)
  obtain⟨w',z⟩:=I.cell x c hc
  refine wpAny_storeName_cell I.ok.kind hk hc z (λ h' hc' hs=>?_)
  obtain⟨oc,hoc,hocd⟩:=id z
  refine h {s with heap:=h'} ⟨I.ok,I.os,I.bare,⟨λ b o e n hb hx=>?_,λ b o e n hb hx=>?_,I.base.free,λ b o e hx=>?_,I.base.jE,I.base.jn,I.base.mJ⟩,⟨m,hn.sameBut hs (Ne.symm (cne x c hc)),λ j y v' e1 e2 e3=>?_⟩,λ y c' e=>?_,I.free,I.g9,λ p hp=>?_,tracked ⟨oc,hoc,I.g9 x c hc⟩ hs,by simpa using I.len⟩ ⟨c,hs,.inr hc⟩
  ·exact(hs.2 b (Nat.ne_of_lt (aB (au e) (I.ok.cab x c hfn hc)))).trans (I.base.keep b o e n hb hx)
  ·obtain⟨sl,e1⟩:=I.base.slot b o e n hb hx
   exact⟨sl,(hs.2 b (Nat.ne_of_lt (aB (au e) (I.ok.cab x c hfn hc)))).trans e1⟩
  ·obtain⟨o',e1⟩:=I.base.there b o e hx
   exact⟨o',(hs.2 b (Nat.ne_of_lt (aB (au e) (I.ok.cab x c hfn hc)))).trans e1⟩
  ·by_cases hj:j=i
   ·subst hj
    rw[hi]at e1;cases e1
    rw[List.getElem?_set_self hiσ]at e2
    cases e2
    exact⟨u,r,.inr ⟨.inl hk,c,hc,hc'⟩⟩
   ·rw[List.getElem?_set_ne (Ne.symm hj)]at e2
    obtain⟨u',r',q⟩:=hl j y v' e1 e2 e3
    refine⟨u',r',?_⟩
    rcases q with q | ⟨k,c',e,z'⟩
    ·exact .inl q
    ·refine .inr ⟨k,c',e,z'.sameBut hs ?_⟩
     rintro rfl
     exact hj (w9 hN e1 (I.ok.inj _ _ _ e hc▸hi))
  ·by_cases hcc:c'=c
   ·subst hcc;exact⟨_,hc'⟩
   ·obtain⟨w2,z2⟩:=I.cell y c' e
    exact⟨w2,z2.sameBut hs hcc⟩
  ·obtain⟨e,n,ne,nf,d⟩:=I.pin p hp
   refine⟨(hs.2 p.1 ?_).trans e,n,ne,nf,d⟩
   intro q
   rw[q,hoc]at e
   have q':oc=p.2:=ao e
   exact d w' (by rw[<-q'];exact hocd)
theorem m9 {M:Model}{A:Around}{E:Value->Shared->Prop}{i:Nat}{x:Str}{v:V}{u:Value}{Q:Unit->Shared->Prop}(I:Inv X pins σ H s)(hN:X.N.Nodup)(hi:X.N[i]?=some x)(hx:Loc X.env.scope x)(r:RelV v u)
  (h:∀ s',Inv X pins (σ.set i (some v)) H s'->Q () s') (hf:X.fn x=true\/X.env.scope.names.lookup x=some .local:=by trivial):wpAny M A (storeName X.env x u) Q E s :=
 uv I hN hi hx r (λ s' I' _=>h s' I') hf
theorem Inv.Kt {s':Shared}{ch:List Addr}(I:Inv X pins σ H s)(ho:s'.os=s.os)(u:Un (frs X.stack) ch H H' s.heap s'.heap)(hok:HOk X.prog X.w H' s'.heap)(hg:AllBare s'.gens)
  (hch:∀ b∈ch,(b∈X.ex\/X.s₀.heap.objs.size<=b)/\b≠X.env.locals/\(∀ x c,X.env.cells.lookup x=some c->c≠b)/\∀ p∈X.pn++pins,p.1≠b):Inv X pins σ H' s':=by
 obtain⟨h',g',d',t',o'⟩:=s'
 have e:o'=s.os:=ho
 subst e
 exact I.call (g':=g') (t':=t') (d':=d') u hok hg hch
end
noncomputable abbrev XK:=Value->Option Addr->Hp->Prop
noncomputable abbrev St:=List (Option V)
noncomputable abbrev VK:=V->Hp->Prop
noncomputable abbrev TE:=St->Hp->VK->Prop
noncomputable abbrev TT:=St->Hp->(Bool->Hp->Prop)->Prop
noncomputable abbrev TA:=St->Hp->(List V->Hp->Prop)->Prop
set_option genInjectivity false in
set_option genSizeOf false in
structure Ends where
 nx:St->Hp->Prop
 rt:VK
 bk:St->Hp->Prop:=λ _ _=>False
 ct:St->Hp->Prop:=λ _ _=>False
noncomputable abbrev TS:=Ends->St->Hp->Prop
noncomputable def EP (X:Cx)(pins:List (Addr×Obj))(σ:St)(Q:VK)(u:Value)(s':Shared):Prop:=∃ v H',Inv X pins σ H' s'/\RelV v u/\Q v H'
noncomputable def TP (X:Cx)(pins:List (Addr×Obj))(σ:St)(Q:Bool->Hp->Prop)(b:Bool)(s':Shared):Prop:=∃ H',Inv X pins σ H' s'/\Q b H'
noncomputable def AP (X:Cx)(pins:List (Addr×Obj))(σ:St)(Q:List V->Hp->Prop)(us:List Value)(s':Shared):Prop:=∃ vs H',Inv X pins σ H' s'/\Vals vs us/\Q vs H'
noncomputable def SP (X:Cx)(pins:List (Addr×Obj))(D:Ends)(f:Flow)(s':Shared):Prop :=
 match f with
 | .next=>∃ σ' H',Inv X pins σ' H' s'/\D.nx σ' H'
 | .brk=>∃ σ' H',Inv X pins σ' H' s'/\D.bk σ' H'
 | .cont=>∃ σ' H',Inv X pins σ' H' s'/\D.ct σ' H'
 | .ret u=>∃ v σ' H',Inv X pins σ' H' s'/\RelV v u/\D.rt v H'
noncomputable def PE (X:Cx)(e:Expr)(t:TE):Prop :=
 ∀ (pins:List (Addr×Obj)) (s:Shared) (σ:St) (H:Hp) (Q:VK),Inv X pins σ H s->t σ H Q->wpAny (model X.prog X.w) X.A (eval e X.env) (EP X pins σ Q) X.xe s
noncomputable def PT (X:Cx)(e:Expr)(t:TT):Prop :=
 ∀ (pins:List (Addr×Obj)) (s:Shared) (σ:St) (H:Hp) (Q:Bool->Hp->Prop),Inv X pins σ H s->t σ H Q->wpAny (model X.prog X.w) X.A (isTrue e X.env (eval e X.env)) (TP X pins σ Q) X.xe s
noncomputable def PW (X:Cx)(e:Expr)(t:TT):Prop :=
 ∀ (whole:Sem Value) (pins:List (Addr×Obj)) (s:Shared) (σ:St) (H:Hp) (Q:Bool->Hp->Prop),Inv X pins σ H s->t σ H Q->wpAny (model X.prog X.w) X.A (isTrue e X.env whole) (TP X pins σ Q) X.xe s
theorem PW.pt {X:Cx}{e:Expr}{t:TT}(h:PW X e t):PT X e t:=h _
noncomputable def PA (X:Cx)(es:List Expr)(t:TA):Prop :=
 ∀ (pos:Pos) (pins:List (Addr×Obj)) (s:Shared) (σ:St) (H:Hp) (Q:List V->Hp->Prop),Inv X pins σ H s->t σ H Q->wpAny (model X.prog X.w) X.A (spliced (backTo pos (starEach es X.env))) (AP X pins σ Q) X.xe s
noncomputable def PS (X:Cx)(st:Stmt)(t:TS):Prop :=
 ∀ (pins:List (Addr×Obj)) (s:Shared) (σ:St) (H:Hp) (D:Ends),Inv X pins σ H s->t D σ H->wpAny (model X.prog X.w) X.A (exec st X.env) (SP X pins D) X.xe s
noncomputable def PSs (X:Cx)(st:List Stmt)(t:TS):Prop :=
 ∀ (pins:List (Addr×Obj)) (s:Shared) (σ:St) (H:Hp) (D:Ends),Inv X pins σ H s->t D σ H->wpAny (model X.prog X.w) X.A (execs st X.env) (SP X pins D) X.xe s
theorem thn {α:Type}{t:Sem α}{Q Q':α->Shared->Prop}{M:Model}{A:Around}{E:Value->Shared->Prop}{s:Shared}(h:wpAny M A t Q E s)(hQ:∀ a s,Q a s->Q' a s):wpAny M A t Q' E s:=wpAny_mono h hQ λ _ _ x=>x
section
variable {X:Cx}
theorem bin {a b:Expr}{ta tb:TE}(ha:PE X a ta)(hb:PE X b tb){pins:List (Addr×Obj)}{s:Shared}{σ:St}{H:Hp}{R:V->V->Hp->Prop}(I:Inv X pins σ H s)(h:ta σ H λ x H1=>tb σ H1 λ y H2=>R x y H2)
  {α:Type} {Q:α->Shared->Prop} {f:Value->Value->Sem α}
  (hf:∀ v u s2 x y H2,Inv X pins σ H2 s2->RelV x v->RelV y u->R x y H2->wpAny (model X.prog X.w) X.A (f v u) Q X.xe s2) :
  wpAny (model X.prog X.w) X.A (eval a X.env) (λ v s₁=>wpAny (model X.prog X.w) X.A (eval b X.env) (λ u s₂=>wpAny (model X.prog X.w) X.A (f v u) Q X.xe s₂) X.xe s₁) X.xe s:=by
 refine thn (ha pins s σ H _ I h) λ v s1 ⟨x,H1,I1,r1,q1⟩=>?_
 refine thn (hb pins s1 σ H1 _ I1 q1) λ u s2 ⟨y,H2,I2,r2,q2⟩=>?_
 exact hf v u s2 x y H2 I2 r1 r2 q2
noncomputable def bF (i:Nat):TE:=λ σ H Q=>∃ v,σ[i]?=some (some v)/\Q v H
noncomputable def tC (v:V):TE:=λ _ H Q=>Q v H
theorem C7 {i:Nat}{x:Str}{pos:Pos}(hN:X.N[i]?=some x)(hv:Vis X.env.scope x)(hd:(x==("__debug__":Str))=false:=by decide)(hcd:(x==("__classdict__":Str))=false:=by decide):PE X (.Name x pos) (bF i):=by
 intro pins s σ H Q I h
 obtain⟨v,e,h⟩:=h
 obtain⟨m,hn,hl⟩:=I.loc
 obtain⟨u,r,l⟩:=hl i x v hN e hv
 have fin:EP X pins σ Q u s:=⟨v,H,I,r,h⟩
 rcases l with⟨hk,hm⟩ | ⟨hk,c,hc,hcell⟩
 ·exact wpAny_Name (wpAny_loadName_local I.ok.kind hk hn hm fin) hd
 ·rcases hk with hk | hk
  ·exact wpAny_Name (wpAny_loadName_cell I.ok.kind hk hc hcell fin) hd
  ·exact wpAny_Name (wpAny_loadName_free I.ok.kind hk hc hcell fin hcd) hd
theorem bA {i j pos}:PE X (.Constant (.int i) j pos) (tC (.int i)):=λ _ _ _ H _ I h=>wpAny_Constant_int ⟨.int i,H,I.tok _,⟨_,rfl⟩,h⟩
theorem Hr {b j pos}:PE X (.Constant (.bool b) j pos) (tC (.bl b)):=λ _ _ _ H _ I h=>Constant_bool ⟨.bl b,H,I,rfl,h⟩
noncomputable def Gl (X:Cx)(x:Str):Prop:=X.env.kindOf x=some .globalImplicit
theorem AB {E:Value->Shared->Prop}{pins:List (Addr×Obj)}{s:Shared}{σ:St}{H:Hp}{x:Str}{u:Value}{pos:Pos}{Q:Value->Shared->Prop}(I:Inv X pins σ H s)(hg:Gl X x)(hm:X.mg x=some u)(h:Q u s)
  (hd:(x==("__debug__":Str))=false:=by decide):wpAny (model X.prog X.w) X.A (eval (.Name x pos) X.env) Q E s :=
 Calls.Name_function_global I.ok.kind hg (Calls.loadGlobal_global (by rw[I.ok.glob];exact I.mod.glob.keeps I.bk) hm h) hd
theorem mK {E:Value->Shared->Prop}{pins:List (Addr×Obj)}{s:Shared}{σ:St}{H:Hp}{x:Str}{u:Value}{pos:Pos}{Q:Value->Shared->Prop}(I:Inv X pins σ H s)(hg:Gl X x)(hm:X.mg x=none)(hv:bootBuiltins x=some u)(h:Q u s)
  (hn:x≠"__name__":=by decide) (hd:(x==("__debug__":Str))=false:=by decide):wpAny (model X.prog X.w) X.A (eval (.Name x pos) X.env) Q E s:=by
 obtain⟨mb,h1,h2⟩:=I.mod.blt
 exact Calls.Name_function_global I.ok.kind hg (Calls.loadGlobal_builtin (by rw[I.ok.glob];exact I.mod.glob.keeps I.bk) hm (by rw[I.ok.blt];exact h1.keeps I.bk) ((h2 x hn).trans hv) h) hd
theorem FK {x:Str}{v:V}{u:Value}{pos:Pos}(hg:Gl X x)(hm:X.mg x=some u)(r:RelV v u)(hd:(x==("__debug__":Str))=false:=by decide):PE X (.Name x pos) (tC v) :=
 λ _ _ _ H _ I h=>AB I hg hm ⟨v,H,I,r,h⟩ hd
theorem FL {x:Str}{v:V}{u:Value}{pos:Pos}(hg:Gl X x)(hm:X.mg x=none)(hv:bootBuiltins x=some u)(r:RelV v u)(hn:x≠"__name__":=by decide)(hd:(x==("__debug__":Str))=false:=by decide):PE X (.Name x pos) (tC v) :=
 λ _ _ _ H _ I h=>mK I hg hm hv ⟨v,H,I,r,h⟩ hn hd
variable {a b:Expr}{ta tb:TE}{pos:Pos}
noncomputable def PC (X:Cx)(op:CmpOp)(a b:Expr)(t:TE):Prop :=
 ∀ (pins:List (Addr×Obj)) (s:Shared) (σ:St) (H:Hp) (Q:VK),Inv X pins σ H s->t σ H Q ->
  wpAny (model X.prog X.w) X.A (eval a X.env) (λ v s₁=>wpAny (model X.prog X.w) X.A (eval b X.env) (λ u s₂=>wpAny (model X.prog X.w) X.A (compareOp op v u) (EP X pins σ Q) X.xe s₂) X.xe s₁) X.xe s
theorem Ku (b:Expr){op:CmpOp}(h:op≠.In)(h2:op≠.NotIn):behindInMarks op b=false:=by
 have e1:(op==CmpOp.In)=false:=by cases op<;>first | rfl | exact absurd rfl h
 have e2:(op==CmpOp.NotIn)=false:=by cases op<;>first | rfl | exact absurd rfl h2
 cases b<;>simp[behindInMarks,e1,e2]
noncomputable def tB (t:TE):TT:=λ σ H Q=>t σ H λ x H1=>∃ c,x=.bl c/\Q c H1
theorem C8 {op:CmpOp}{t:TE}(h:PC X op a b t)(h1:behindInMarks op b=false):PT X (.Compare a [op] [b] pos) (tB t):=by
 intro pins s σ H Q I hw
 refine wpAny_isTrue_Compare1 (thn (h pins s σ H _ I hw) λ v s1 h1=>thn h1 λ u s2 h2=>thn h2 λ c s3 ⟨x,H1,I1,r1,q1⟩=>?_) h1
 obtain⟨d,rfl,q⟩:=q1
 cases r1
 exact wpAny_truthy_bool ⟨H1,I1,q⟩
variable {tA tB':TT}{rest:List Expr}
noncomputable def tOr (t u:TT):TT:=λ σ H Q=>t σ H λ c H1=>if c=true then Q true H1 else u σ H1 Q
noncomputable def Mq (t:TT):TT:=λ σ H Q=>t σ H λ c H1=>Q (!c) H1
theorem Iq (ha:PT X a tA):PW X (.BoolOp .Or [a] pos) tA:=by
 intro wh pins s σ H Q I h
 refine isTrue_or (thn (ha pins s σ H Q I h) λ c s1 e=>?_)
 cases c with
 | false=>exact isTrue_or_nil e
 | true=>exact e
theorem Kv (ha:PT X a tA)(hb:PW X (.BoolOp .Or (b::rest) pos) tB'):PW X (.BoolOp .Or (a::b::rest) pos) (tOr tA tB'):=by
 intro wh pins s σ H Q I h
 refine isTrue_or (thn (ha pins s σ H _ I h) λ c s1 ⟨H1,I1,q1⟩=>?_)
 cases c with
 | true=>exact⟨H1,I1,q1⟩
 | false=>exact hb wh pins s1 σ H1 Q I1 q1
theorem Ir (ha:PT X a tA):PT X (.UnaryOp .Not a pos) (Mq tA):=by
 intro pins s σ H Q I h
 exact isTrue_not (ha pins s σ H (λ c H1=>Q (!c) H1) I h)
noncomputable def Kw (ta tb:TE):TE:=λ σ H Q=>ta σ H λ x H1=>∃ c,x=.bl c/\if c=true then tb σ H1 Q else Q (.bl false) H1
noncomputable def Kx (ta:TE):TE:=λ σ H Q=>ta σ H λ x H1=>∃ c,x=.bl c/\Q (.bl (!c)) H1
theorem Iu {op}{t:TE}(h:PE X a t):PE X (.BoolOp op [a] pos) t:=λ pins s σ H Q I hw=>BoolOp_one (h pins s σ H Q I hw)
theorem Iv (ha:PE X a ta)(hb:PE X (.BoolOp .And (b::rest) pos) tb):PE X (.BoolOp .And (a::b::rest) pos) (Kw ta tb):=by
 intro pins s σ H Q I h
 refine BoolOp_and (thn (ha pins s σ H _ I h) λ v s1 ⟨x,H1,I1,r1,q1⟩=>?_)
 obtain⟨c,rfl,q1⟩:=q1
 cases r1
 refine wpAny_truthy_bool ?_
 cases c with
 | true=>exact hb pins s1 σ H1 Q I1 q1
 | false=>exact⟨.bl false,H1,I1,rfl,q1⟩
theorem Iw (ha:PE X a ta):PE X (.UnaryOp .Not a pos) (Kx ta):=by
 intro pins s σ H Q I h
 refine UnaryOp_ (thn (ha pins s σ H _ I h) λ v s1 ⟨x,H1,I1,r1,q1⟩=>?_)
 obtain⟨c,rfl,q1⟩:=q1
 cases r1
 exact not_of (wpAny_truthy_bool ⟨.bl (!c),H1,I1,rfl,q1⟩)
noncomputable def tIf (t:TT)(ta tb:TE):TE:=λ σ H Q=>t σ H λ c H1=>if c=true then ta σ H1 Q else tb σ H1 Q
theorem C9 {c:Expr}(hc:PT X c tA)(ha:PE X a ta)(hb:PE X b tb):PE X (.IfExp c a b pos) (tIf tA ta tb):=by
 intro pins s σ H Q I h
 refine wpAny_IfExp (thn (hc pins s σ H _ I h) λ d s1 ⟨H1,I1,q1⟩=>?_)
 cases d with
 | true=>exact ha pins s1 σ H1 Q I1 q1
 | false=>exact hb pins s1 σ H1 Q I1 q1
end
noncomputable def SqL (K:PySem.W.Frag)(H:Hp)(a:Addr)(xs:List V):Prop :=
 Rd H a (.lst xs) \/
  ∃ (o:Obj) (its:Array Value) (n:Nat),K.lookup a=some o/\o.cls=.type "list"/\o.dict=none/\o.data=.seq its n/\its.size<=sizeLine/\Vals xs its.toList
noncomputable def SqT (K:PySem.W.Frag)(H:Hp)(a:Addr)(xs:List V):Prop :=
 Rd H a (.tup xs) \/
  ∃ (o:Obj) (its:Array Value) (n:Nat),K.lookup a=some o/\o.cls=.type "tuple"/\o.data=.seq its n/\its.size<=sizeLine/\Vals xs its.toList
noncomputable def Mr:Value->Option V
 | .none=>some .non
 | .bool b=>some (.bl b)
 | .int i _=>some (.int i)
 | .str x _=>some (.str x)
 | .bytes b _=>some (.byt b)
 | .float b _=>some (.flt b)
 | .ref a=>some (.ref a)
 | .type n=>some (.ty n)
 | _=>none
theorem RelV.abs {x:V}{u:Value}(r:RelV x u):Mr u=some x:=by
 cases x with
 | non=>cases r;rfl
 | bl _=>cases r;rfl
 | int _=>obtain⟨t,rfl⟩:=r;rfl
 | str _=>obtain⟨t,rfl⟩:=r;rfl
 | byt _=>obtain⟨t,rfl⟩:=r;rfl
 | flt _=>obtain⟨t,rfl⟩:=r;rfl
 | ref _=>cases r;rfl
 | ty _=>cases r;rfl
theorem RelV.inj {x y:V}{u:Value}(r:RelV x u)(q:RelV y u):x=y:=ao (r.abs.symm.trans q.abs)
theorem Vals.inj:∀ {xs ys:List V} {us:List Value},Vals xs us->Vals ys us->xs=ys
 := by
  intro xs ys us h
  induction h generalizing ys with
  | nil=>intro h';cases h';rfl
  | cons r t ih=>intro h';cases h' with | cons r' t'=>rw[r.inj r',ih t']
section
variable {X:Cx}{pins:List (Addr×Obj)}{σ:St}{H:Hp}{s:Shared}{a:Addr}{xs ys:List V}
theorem SqL.of {K:PySem.W.Frag}(h:H a=some (.lst xs)):SqL K H a xs:=.inl (.inl h)
theorem SqT.of {K:PySem.W.Frag}(h:H a=some (.tup xs)):SqT K H a xs:=.inl (.inl h)
theorem Inv.list (I:Inv X pins σ H s)(h:SqL X.K H a xs):∃ its:List Value,Vals xs its/\PlainL s.heap a its.toArray/\xs.length<=sizeLine:=by
 rcases h with h | ⟨o,its,n,hk,hc,hd,hs,hz,r⟩
 ·obtain⟨z,its,n,r,e⟩:=h.ok I.hok
  exact⟨its,r,⟨_,n,e,rfl,rfl,rfl⟩,z⟩
 ·refine⟨its.toList,r,⟨o,n,I.kIn a o hk,hc,hd,by simpa using hs⟩,?_⟩
  have e:=r.length
  simp only[Array.length_toList]at e
  omega
theorem Inv.tuple (I:Inv X pins σ H s)(h:SqT X.K H a xs):∃ its:List Value,Vals xs its/\IsTup s.heap a its.toArray/\xs.length<=sizeLine:=by
 rcases h with h | ⟨o,its,n,hk,hc,hs,hz,r⟩
 ·obtain⟨z,its,r,p⟩:=h.ok I.hok
  exact⟨its,r,p,z⟩
 ·refine⟨its.toList,r,⟨o,I.kIn a o hk,hc,n,by simpa using hs⟩,?_⟩
  have e:=r.length
  simp only[Array.length_toList]at e
  omega
theorem Inv.w_ (I:Inv X pins σ H s)(h:SqL X.K H a xs)(h':SqL X.K H a ys):xs=ys:=by
 obtain⟨its,r,⟨o,n,e,_,_,d⟩,_⟩:=I.list h
 obtain⟨its',r',⟨o',n',e',_,_,d'⟩,_⟩:=I.list h'
 rw[e]at e';cases e'
 rw[d]at d'
 injection d' with d1 _
 have:its=its':=by simpa using congrArg Array.toList d1
 subst this
 exact r.inj r'
theorem Inv.oM (I:Inv X pins σ H s)(h:SqT X.K H a xs)(h':SqT X.K H a ys):xs=ys:=by
 obtain⟨its,r,⟨o,e,_,n,d⟩,_⟩:=I.tuple h
 obtain⟨its',r',⟨o',e',_,n',d'⟩,_⟩:=I.tuple h'
 rw[e]at e';cases e'
 rw[d]at d'
 injection d' with d1 _
 have:its=its':=by simpa using congrArg Array.toList d1
 subst this
 exact r.inj r'
end
noncomputable abbrev Cx.qt (X:Cx)(E:Value->Shared->Prop):Cx:={X with xe:=E}
noncomputable abbrev Cx.nox (X:Cx):Cx:=X.qt λ _ _=>False
theorem Cx.Ok.qt {X:Cx}(ok:X.Ok)(E:Value->Shared->Prop):(X.qt E).Ok :=
 ⟨ok.mod,ok.kind,ok.glob,ok.blt,ok.above,ok.inj,ok.has,ok.cab,ok.hd,ok.frames,ok.stk,ok.exf,ok.bs,ok.bsz,ok.BR,ok.FJ,ok.qr,ok.frf⟩
theorem Cx.Ok.jo {X:Cx}{E:Value->Shared->Prop}(ok:(X.qt E).Ok):X.Ok :=
 ⟨ok.mod,ok.kind,ok.glob,ok.blt,ok.above,ok.inj,ok.has,ok.cab,ok.hd,ok.frames,ok.stk,ok.exf,ok.bs,ok.bsz,ok.BR,ok.FJ,ok.qr,ok.frf⟩
section
variable {X:Cx}{pins:List (Addr×Obj)}{σ:St}{H:Hp}{s:Shared}{E:Value->Shared->Prop}
theorem Inv.qt (I:Inv X pins σ H s)(E:Value->Shared->Prop):Inv (X.qt E) pins σ H s:=⟨I.ok.qt E,I.os,I.bare,I.base,I.loc,I.cell,I.free,I.g9,I.pin,I.hok,I.len⟩
theorem Inv.jo (I:Inv (X.qt E) pins σ H s):Inv X pins σ H s:=⟨I.ok.jo,I.os,I.bare,I.base,I.loc,I.cell,I.free,I.g9,I.pin,I.hok,I.len⟩
theorem SP.jo {D:Ends}{f:Flow}{s':Shared}(h:SP (X.qt E) pins D f s'):SP X pins D f s':=by
 cases f with
 | next=>obtain⟨σ',H',I,q⟩:=h;exact⟨σ',H',I.jo,q⟩
 | brk=>obtain⟨σ',H',I,q⟩:=h;exact⟨σ',H',I.jo,q⟩
 | cont=>obtain⟨σ',H',I,q⟩:=h;exact⟨σ',H',I.jo,q⟩
 | ret u=>obtain⟨v,σ',H',I,r,q⟩:=h;exact⟨v,σ',H',I.jo,r,q⟩
theorem PE.nox {e:Expr}{t:TE}(h:PE X.nox e t):PE X e t:=λ pins s σ H Q I hw =>
 wpAny_mono (h pins s σ H Q (I.qt _) hw) (λ _ _ ⟨v,H',I',r,q⟩=>⟨v,H',I'.jo,r,q⟩) λ _ _ z=>False.elim z
theorem PT.nox {e:Expr}{t:TT}(h:PT X.nox e t):PT X e t:=λ pins s σ H Q I hw =>
 wpAny_mono (h pins s σ H Q (I.qt _) hw) (λ _ _ ⟨H',I',q⟩=>⟨H',I'.jo,q⟩) λ _ _ z=>False.elim z
theorem PSs.nox {st:List Stmt}{t:TS}(h:PSs X.nox st t):PSs X st t:=λ pins s σ H D I hw =>
 wpAny_mono (h pins s σ H D (I.qt _) hw) (λ _ _ q=>q.jo) λ _ _ z=>False.elim z
end
section
variable {X:Cx}{st:Stmt}{rest:List Stmt}{t u:TS}{e:Expr}{te:TE}{pos:Pos}
noncomputable def xa:TS:=λ D σ H=>D.nx σ H
noncomputable def dP (t u:TS):TS:=λ D σ H=>t {D with nx:=u D} σ H
theorem jR:PSs X [] xa:=λ _ _ σ H _ I h=>wpAny_execs_nil ⟨σ,H,I,h⟩
theorem ba (h1:PS X st t)(h2:PSs X rest u):PSs X (st::rest) (dP t u):=by
 intro pins s σ H D I h
 refine wpAny_execs_cons (thn (h1 pins s σ H {D with nx:=u D} I h) λ f s1 q=>?_)
 cases f with
 | next =>
  obtain⟨σ',H',I',q⟩:=q
  exact h2 pins s1 σ' H' D I' q
 | ret v=>exact q
 | brk=>exact q
 | cont=>exact q
theorem bW (h1:PS X st t):PSs X [st] t:=by
 intro pins s σ H D I h
 refine wpAny_execs_cons (thn (h1 pins s σ H D I h) λ f s1 q=>?_)
 cases f with
 | next=>exact wpAny_execs_nil q
 | ret v=>exact q
 | brk=>exact q
 | cont=>exact q
theorem Inv.quiet {pins:List (Addr×Obj)}{σ:St}{H:Hp}{s:Shared}(I:Inv X pins σ H s):interactive X.env=false:=by simp[interactive,I.ok.kind]
noncomputable def AD (te:TE):TS:=λ D σ H=>te σ H λ _ H1=>D.nx σ H1
theorem qM (he:PE X e te)(hs:swapsWith e none pos.line X.env=pure false:=by rfl):PS X (.Expr e pos) (AD te):=by
 intro pins s σ H D I h
 exact wpAny_Expr_any (thn (he pins s σ H _ I h) λ v s1 ⟨x,H1,I1,r1,q1⟩=>⟨σ,H1,I1,q1⟩) I.quiet hs
noncomputable def BS (te:TE):TS:=λ D σ H=>te σ H D.rt
theorem jq (he:PE X e te):PS X (.Return (some e) pos) (BS te):=by
 intro pins s σ H D I h
 exact wpAny_Return_some (thn (he pins s σ H _ I h) λ v s1 ⟨x,H1,I1,r1,q1⟩=>⟨x,σ,H1,I1,r1,q1⟩)
noncomputable def C_ (c:TT)(t u:TS):TS:=λ D σ H=>c σ H λ b H1=>if b=true then t D σ H1 else u D σ H1
theorem rq {c:Expr}{a b:List Stmt}{tc:TT}(hc:PT X c tc)(ha:PSs X a t)(hb:PSs X b u):PS X (.If c a b pos) (C_ tc t u):=by
 intro pins s σ H D I h
 refine wpAny_If (thn (hc pins s σ H _ I h) λ d s1 ⟨H1,I1,q1⟩=>?_)
 cases d with
 | true=>exact ha pins s1 σ H1 D I1 q1
 | false=>exact hb pins s1 σ H1 D I1 q1
end
noncomputable abbrev TG:=V->St->Hp->(St->Hp->Prop)->Prop
noncomputable abbrev TGs:=List V->St->Hp->(St->Hp->Prop)->Prop
noncomputable def PG (X:Cx)(target:Expr)(t:TG):Prop :=
 ∀ (pins:List (Addr×Obj)) (s:Shared) (σ:St) (H:Hp) (v:V) (u:Value) (Q:St->Hp->Prop),Inv X pins σ H s->RelV v u->t v σ H Q ->
  wpAny (model X.prog X.w) X.A (assign target X.env u) (λ _ s'=>∃ σ' H',Inv X pins σ' H' s'/\Q σ' H') X.xe s
noncomputable def PGs (X:Cx)(ts:List Expr)(t:TGs):Prop :=
 ∀ (pins:List (Addr×Obj)) (s:Shared) (σ:St) (H:Hp) (vs:List V) (us:List Value) (Q:St->Hp->Prop),Inv X pins σ H s->Vals vs us->t vs σ H Q ->
  wpAny (model X.prog X.w) X.A (assignInOrder ((assignEach ts X.env).map (·.2)) us) (λ _ s'=>∃ σ' H',Inv X pins σ' H' s'/\Q σ' H') X.xe s
noncomputable abbrev Iy:=V->V->V->Hp->(Hp->Prop)->Prop
noncomputable def Ky (X:Cx)(t:Iy):Prop :=
 ∀ (pins:List (Addr×Obj)) (s:Shared) (σ:St) (H:Hp) (o i v:V) (ov iv u:Value) (Q:Hp->Prop),Inv X pins σ H s->RelV o ov->RelV i iv->RelV v u->t o i v H Q ->
  wpAny (model X.prog X.w) X.A (setItem ov iv u) (λ _ s'=>∃ H',Inv X pins σ H' s'/\Q H') X.xe s
section
variable {X:Cx}{pos:Pos}
noncomputable def bT (i:Nat):TG:=λ v σ H Q=>Q (σ.set i (some v)) H
theorem bh {i:Nat}{x:Str}(hN:X.N.Nodup)(hi:X.N[i]?=some x)(hx:Loc X.env.scope x)(hf:X.fn x=true\/X.env.scope.names.lookup x=some .local:=by trivial):PG X (.Name x pos) (bT i):=by
 intro pins s σ H v u Q I r h
 exact wpAny_assign_Name (m9 I hN hi hx r (λ s' I'=>⟨_,H,I',h⟩) hf)
noncomputable def BU:TGs:=λ vs σ H Q=>vs=[]/\Q σ H
noncomputable def mr (t:TG)(u:TGs):TGs:=λ vs σ H Q=>∃ v r,vs=v::r/\t v σ H λ σ' H'=>u r σ' H' Q
theorem dz:PGs X [] BU:=by
 intro pins s σ H vs us Q I r h
 obtain⟨e,h⟩:=h
 subst e
 cases r
 exact assignInOrder_nil ⟨σ,H,I,h⟩
theorem bC {e:Expr}{es:List Expr}{t:TG}{u:TGs}(h1:PG X e t)(h2:PGs X es u)
  (hs:(assignEach (e::es) X.env).map (·.2)=assign e X.env::(assignEach es X.env).map (·.2):=by rfl):PGs X (e::es) (mr t u):=by
 intro pins s σ H vs us Q I r h
 obtain⟨v,vr,e1,h⟩:=h
 subst e1
 cases r with
 | cons r rr =>
  rw[hs]
  refine assignInOrder_cons (thn (h1 pins s σ H _ _ _ I r h) λ _ s1 ⟨σ1,H1,I1,q1⟩=>?_)
  exact h2 pins s1 σ1 H1 _ _ Q I1 rr q1
noncomputable def BV (K:PySem.W.Frag)(n:Nat)(t:TGs):TG:=λ v σ H Q=>∃ a xs,v=.ref a/\SqT K H a xs/\xs.length=n/\t xs σ H Q
theorem eV {es:List Expr}{k:Nat}{t:TGs}{n:Nat}(hc:X.calm=true)(h:PGs X es t)
  (hn:(assignEach es X.env).length=n:=by rfl) (hst:(assignEach es X.env).findIdx? (·.1)=none:=by rfl):PG X (.Tuple es k pos) (BV X.K n t):=by
 intro pins s σ H v u Q I r hw
 obtain⟨a,xs,e1,hq,hl,hw⟩:=hw
 subst e1
 cases r
 obtain⟨its,rv,ht,hz⟩:=I.tuple hq
 refine assign_Tuple_tuple (I.ok.hd hc) ht (by simp[hn,<-hl,rv.length]) hst λ h' hx=>?_
 have I1:Inv X pins σ H {s with heap:=h'}:=I.kept (t':=s.toks) λ b o e=>hx b o (Nat.ne_of_lt (au e)) e
 exact h pins _ σ H xs _ Q I1 (by simpa using rv) hw
noncomputable def FN (to ti:TE)(t:Iy):TG:=λ v σ H Q=>to σ H λ o H1=>ti σ H1 λ i H2=>t o i v H2 λ H3=>Q σ H3
theorem vd {o i:Expr}{to ti:TE}{t:Iy}(ho:PE X o to)(hi:PE X i ti)(hs:Ky X t)
  (ha:∀ v,assign (.Subscript o i pos) X.env v=(do
   let ov<-holding [v] (eval o X.env)
   let iv<-holding [v,ov] (eval i X.env)
   standAt pos
   holding [v,ov,iv] (setItem ov iv v)
   release [v,ov,iv] []):=by intro _;rfl):PG X (.Subscript o i pos) (FN to ti t):=by
 intro pins s σ H v u Q I r h
 rw[ha]
 refine av (wpAny_holding (thn (ho pins s σ H _ I h) λ ov s1 ⟨x,H1,I1,r1,q1⟩=>?_))
 refine av (wpAny_holding (thn (hi pins s1 σ H1 _ I1 q1) λ iv s2 ⟨y,H2,I2,r2,q2⟩=>?_))
 refine av (wpAny_standAt (av (wpAny_holding (thn (hs pins s2 σ H2 x y v ov iv u _ I2 r1 r2 r q2) λ _ s3 ⟨H3,I3,q3⟩=>?_))))
 exact wpAny_release ⟨σ,H3,I3,q3⟩
noncomputable def gG (te:TE)(g:TG):TS:=λ D σ H=>te σ H λ x H1=>g x σ H1 D.nx
theorem oN {tg e:Expr}{te:TE}{g:TG}(he:PE X e te)(hg:PG X tg g)(hs:swapsWithSole [tg] e pos.line X.env=pure false:=by rfl)(hw:swappedStores [tg] e X.env=pure none:=by rfl)
  (h1:(assignEach [tg] X.env).map (·.2)=[assign tg X.env]:=by rfl):PS X (.Assign [tg] e pos) (gG te g):=by
 intro pins s σ H D I h
 refine wpAny_Assign_stores (thn (he pins s σ H _ I h) λ v s1 ⟨x,H1,I1,r1,q1⟩=>?_) hs hw
 rw[h1]
 exact thn (hg pins s1 σ H1 x v _ I1 r1 q1) λ _ s2 q=>q
theorem b_ {i:Nat}{x:Str}{e:Expr}{te:TE}{pos':Pos}(hN:X.N.Nodup)(hi:X.N[i]?=some x)(hx:Loc X.env.scope x)(he:PE X e te)(hs:swapsWith e (some (.Name x pos')) pos.line X.env=pure false:=by rfl)(hf:X.fn x=true\/X.env.scope.names.lookup x=some .local:=by trivial) :
  PS X (.Assign [.Name x pos'] e pos) (gG te (bT i)):=by
 intro pins s σ H D I h
 refine wpAny_Assign_Name (thn (he pins s σ H _ I h) λ v s1 ⟨y,H1,I1,r1,q1⟩=>?_) hs
 exact m9 I1 hN hi hx r1 (λ s2 I2=>⟨_,H1,I2,q1⟩) hf
noncomputable def Ms (i j:Nat)(ta:TA):TS:=λ D σ H=>ta σ H λ vs H1=>∃ v w,vs=[v,w]/\D.nx ((σ.set i (some v)).set j (some w)) H1
theorem Iz {i j:Nat}{x y:Str}{a b:Expr}{ta:TA}{px py pt:Pos}{kt k2 pt2}(hc:X.calm=true)(hN:X.N.Nodup)(hi:X.N[i]?=some x)(hj:X.N[j]?=some y)(hij:i≠j)
  (hx:X.env.scope.names.lookup x=some .local) (hy:X.env.scope.names.lookup y=some .local) (ha:PA X [a,b] ta)
  (hw:swappedStores [.Tuple [.Name x px,.Name y py] kt pt] (.Tuple [a,b] k2 pt2) X.env=pure (some [x,y]))
  (hs:swapsWithSole [.Tuple [.Name x px,.Name y py] kt pt] (.Tuple [a,b] k2 pt2) pos.line X.env=pure false:=by rfl) :
  PS X (.Assign [.Tuple [.Name x px,.Name y py] kt pt] (.Tuple [a,b] k2 pt2) pos) (Ms i j ta):=by
 intro pins s σ H D I h
 rw[exec_Assign_arm]
 refine av (wpAny_standAt ?_)
 rw[hs]
 refine av (aw ?_)
 rw[af (by decide)]
 refine av (Tuple_ (thn (ha _ pins s σ H _ I h) λ us s1 ⟨vs,H1,I1,r1,q1⟩=>?_))
 obtain⟨v,w,e1,q1⟩:=q1
 subst e1
 obtain⟨u1,u2,rfl,rv,rw'⟩:∃ u1 u2,us=[u1,u2]/\RelV v u1/\RelV w u2:=by
  cases r1 with
  | cons p q =>
   cases q with
   | cons p' q' =>
    cases q'
    exact⟨_,_,rfl,p,p'⟩
 refine wpAny_newObj_type ?_ (by show 2<=sizeLine;decide)
 have I2:Inv X pins σ H1 {s1 with heap:=s1.heap.push {cls:=.type "tuple",data:=.seq [u1,u2].toArray}}:=I1.kept (t':=s1.toks) λ b o e=>aC _ e
 rw[hw]
 refine av (aw ?_)
 show wpAny (model X.prog X.w) X.A (do rule "assign.swapped-stores";let items<-unpackItems (.ref s1.heap.objs.size) 2 none;assignInOrder [λ v=>bindName X.env y v,λ v=>bindName X.env x v] items.reverse;pure Flow.next) _ _ _
 refine av (wpAny_rule (av (unpackItems_tuple (items:=#[u1,u2]) (I.ok.hd hc) (IsTup.new s1.heap _) λ h' hx'=>?_)))
 have I3:=I2.kept (h':=h') (t':=s1.toks) λ b o e=>hx' b o (Nat.ne_of_lt (au e)) e
 show wpAny _ _ (assignInOrder [λ v=>bindName X.env y v,λ v=>bindName X.env x v] [u2,u1]>>=λ _=>pure Flow.next) _ _ _
 refine av (assignInOrder_cons (wpAny_bindName (m9 I3 hN hj (.inl hy) rw' (λ s2 I4=>?_) (.inr hy))))
 refine assignInOrder_cons (wpAny_bindName (m9 I4 hN hi (.inl hx) rv (λ s3 I5=>assignInOrder_nil (aw ?_)) (.inr hx)))
 rw[List.set_comm _ _ (Ne.symm hij)]at I5
 exact⟨_,H1,I5,q1⟩
end
section
variable {X:Cx}{pos:Pos}
noncomputable def zd (c:TT)(tb:TS):TS:=λ D σ H=>∃ W:Nat->St->Hp->Prop,(∃ m,W m σ H)/\∀ m σ H,W m σ H ->
 c σ H λ b H1=>if b=true then ∃ N:St->Hp->Prop,(∀ σ' H',N σ' H'->∃ m',m'<m/\W m' σ' H')/\tb {D with nx:=N,ct:=N,bk:=D.nx} σ H1 else D.nx σ H1
theorem rz {c:Expr}{body:List Stmt}{tc:TT}{tb:TS}(hp:PassesOwn (model X.prog X.w) X.A X.env X.xe)(hc:PT X c tc)(hb:PSs X body tb):PS X (.While c body [] pos) (zd tc tb):=by
 intro pins s σ H D I h
 obtain⟨W,⟨m0,w0⟩,turn⟩:=h
 refine wpAny_While (codeAny_whileLoop (λ n s'=>∃ σ' H',Inv X pins σ' H' s'/\W n σ' H') ?_ m0 ⟨σ,H,I,w0⟩)
 rintro n s1 ⟨σ1,H1,I1,w1⟩
 refine wpAny_passesOwn hp (thn (hc pins s1 σ1 H1 _ I1 (turn n σ1 H1 w1)) λ b s2 ⟨H2,I2,q2⟩=>?_)
 cases b with
 | true =>
  obtain⟨N,hN,q2⟩:=q2
  rw[ae rfl]
  refine wpAny_passesOwn hp (thn (hb pins s2 σ1 H2 _ I2 q2) λ f s3 q3=>?_)
  cases f with
  | next =>
   obtain⟨σ3,H3,I3,n3⟩:=q3
   obtain⟨m',hm,w3⟩:=hN σ3 H3 n3
   exact⟨m',hm,σ3,H3,I3,w3⟩
  | cont =>
   obtain⟨σ3,H3,I3,n3⟩:=q3
   obtain⟨m',hm,w3⟩:=hN σ3 H3 n3
   exact⟨m',hm,σ3,H3,I3,w3⟩
  | brk=>exact q3
  | ret v=>exact q3
 | false =>
  rw[af aq]
  exact wpAny_execs_nil ⟨σ1,H2,I2,q2⟩
end
structure It where
 go:Nat->Hp->Prop
 yld:Nat->Hp->V->Hp->Prop
 stop:Nat->Hp->Prop
noncomputable def oO (X:Cx)(pins:List (Addr×Obj))(H:Hp)(b:Addr):Prop :=
 H b=none/\b≠X.env.locals/\b∉X.fs/\(b∈X.ex\/X.s₀.heap.objs.size<=b)/\(∀ x c,X.env.cells.lookup x=some c->c≠b)/\∀ p∈X.pn++pins,p.1≠b
theorem Inv.BW {X:Cx}{pins:List (Addr×Obj)}{σ:St}{H H':Hp}{s:Shared}{b:Addr}(I:Inv X pins σ H s)(hb:s.heap.objs.size<=b)(hn:H' b=none):oO X pins H' b:=by
 refine⟨hn,Nat.ne_of_gt (aB I.lt hb),I.Mp hb,.inr (Nat.le_trans I.sz hb),λ x c e z=>?_,λ p hp z=>?_⟩
 ·obtain⟨v,q⟩:=I.cell x c e
  exact absurd (aB q.lt (by rw[z];exact hb)) (Nat.lt_irrefl _)
 ·exact absurd (aB (au (I.pin p hp).1) (by rw[z];exact hb)) (Nat.lt_irrefl _)
structure Turn (P:Program)(w:World)(K:PySem.W.Frag)(tg:Expr)(J:It)(fp:List Addr)(it:Addr)(tn:Nat->Heap->Prop):Prop where
 mem:it∈fp
 obj:∀ i h,tn i h->∀ b∈fp,∃ o,h.get? b=some o/\∀ v,o.data≠.cell v
 keep:∀ i h h',tn i h->(∀ b∈fp,∀ o,h.get? b=some o->h'.get? b=some o)->tn i h'
 item:∀ (X:Cx),X.prog=P->X.w=w->X.K=K->X.calm=true->∀ (i:Nat) (pins:List (Addr×Obj)) (s:Shared) (σ:St) (H:Hp) (E:Value->Shared->Prop),Inv X pins σ H s->(∀ b∈fp,oO X pins H b)->tn i s.heap->J.go i H ->
  wpAny (model P w) X.A (pyNext (.ref it)) (λ r s1=>∃ u,r=some u /\
   wpAny (model P w) X.A (letOwnedTupleGo tg (.ref it) u) (λ _ s2=>∃ x H',Inv X pins σ H' s2/\RelV x u/\J.yld i H x H'/\tn (i+1) s2.heap/\∀ b∈fp,H' b=none) E s1) E s
 done:∀ (X:Cx),X.prog=P->X.w=w->X.K=K->X.calm=true->∀ (i:Nat) (pins:List (Addr×Obj)) (s:Shared) (σ:St) (H:Hp) (E:Value->Shared->Prop),Inv X pins σ H s->(∀ b∈fp,oO X pins H b)->tn i s.heap->J.stop i H ->
  wpAny (model P w) X.A (pyNext (.ref it)) (λ r s1=>r=none/\Inv X pins σ H s1) E s
 self:∀ (A:Around) (i:Nat) (s:Shared) (Q:Value->Shared->Prop) (E:Value->Shared->Prop),tn i s.heap->Q (.ref it) s->wpAny (model P w) A (pyIter (.ref it)) Q E s
noncomputable abbrev TI:=St->Hp->(It->Hp->Prop)->Prop
noncomputable def PIE (X:Cx)(pins:List (Addr×Obj))(σ:St)(tg:Expr)(R:It->Hp->Prop)(itv:Value)(s2:Shared):Prop :=
 ∃ (it:Addr) (fp:List Addr) (tn:Nat->Heap->Prop) (J:It) (H':Hp),itv=.ref it/\Inv X pins σ H' s2/\Turn X.prog X.w X.K tg J fp it tn/\tn 0 s2.heap/\(∀ b∈fp,oO X pins H' b)/\R J H'
noncomputable def PI (X:Cx)(tg iter:Expr)(wi:TI):Prop :=
 ∀ (pins:List (Addr×Obj)) (s:Shared) (σ:St) (H:Hp) (R:It->Hp->Prop),Inv X pins σ H s->wi σ H R ->
  wpAny (model X.prog X.w) X.A (eval iter X.env) (λ v s1=>wpAny (model X.prog X.w) X.A (pyIter v) (PIE X pins σ tg R) X.xe s1) X.xe s
theorem AE {M : Model}{A : Around}{E : Value -> Shared -> Prop}{s : Shared}{tg : Expr}{it : Addr}{u : Value}{o : Obj}{n : String}{vs : Array Value}{Q : Unit -> Shared -> Prop}(ho : s.heap.get? it = some o)(hc : o.cls = .type n)(hd : o.data = .fields vs)
    (hn : ["enumerate", "zip", "dict_itemiterator", "dict_reverseitemiterator", "odict_iterator", "itertools.zip_longest", "itertools.pairwise"].contains n = false) (hQ : Q () s) : wpAny M A (letOwnedTupleGo tg (.ref it) u) Q E s := by
  unfold letOwnedTupleGo
  cases tg <;> first
    | exact aw hQ
    | (cases u <;> first
        | exact aw hQ
        | (refine av (wpAny_load ho ?_)
           rw[hc, hd]
           show wpAny M A (if (["enumerate", "zip", "dict_itemiterator", "dict_reverseitemiterator", "odict_iterator", "itertools.zip_longest", "itertools.pairwise"].contains n && vs[0]? == some (rawInt _)) = true then _ else _) Q E s
           rw[af (by intro h; rw[hn, Bool.false_and]at h; cases h)]
           exact aw hQ))
noncomputable def Itl (K:PySem.W.Frag)(a:Addr):It :=
 ⟨λ i H=>∃ xs x,SqL K H a xs/\xs[i]?=some x,λ i H x H'=>H'=H/\∀ xs,SqL K H a xs->xs[i]?=some x,λ i H=>∃ xs,SqL K H a xs/\xs.length<=i⟩
noncomputable def Itt (K:PySem.W.Frag)(a:Addr):It :=
 ⟨λ i H=>∃ xs x,SqT K H a xs/\xs[i]?=some x,λ i H x H'=>H'=H/\∀ xs,SqT K H a xs->xs[i]?=some x,λ i H=>∃ xs,SqT K H a xs/\xs.length<=i⟩
noncomputable def Itr (lo:Int)(n:Nat):It:=⟨λ i _=>i<n,λ i H x H'=>H'=H/\x=.int (lo+i),λ i _=>n<=i⟩
theorem BX {P:Program}{w:World}{K:PySem.W.Frag}{tg:Expr}(a it:Addr):Turn P w K tg (Itl K a) [it] it (λ i h=>h.IsListIter it a i) where
 mem:=by simp
 obj:=λ i h st b hb=>by
  have e:b=it:=by simpa using hb
  subst e
  obtain⟨o,e,c,d⟩:=st
  exact⟨o,e,λ v z=>by rw[d]at z;cases z⟩
 keep:=λ i h h' st k=>st.at λ o e=>k it (by simp) o e
 item:=by
  intro X hP hw hK hc i pins s σ H E I hf st hg
  subst hP hw hK
  obtain⟨xs,x,hq,hx⟩:=hg
  obtain⟨its,rv,p,hz⟩:=I.list hq
  obtain⟨u,hu,ru⟩:=rv.get hx
  obtain⟨f0,f1,f2,f3,f4,f5⟩:=hf it (by simp)
  refine wpAny_pyNext_list_item st p.isList (x:=u) (by simpa using hu) λ h' st' sb=>?_
  have I1:Inv X pins σ H {s with heap:=h'}:=I.turned (t':=s.toks) (λ b o hb e=>(sb.2 b hb).trans e) f0 f1 f3 f4 f5
  obtain⟨o,e,c,d⟩:=id st'
  exact⟨u,rfl,AE (s:={s with heap:=h'}) e c d (by decide) ⟨x,H,I1,ru,⟨rfl,λ ys hy=>by rw[I.w_ hy hq];exact hx⟩,st',λ b hb=>(hf b hb).1⟩⟩
 done:=by
  intro X hP hw hK hc i pins s σ H E I hf st hg
  subst hP hw hK
  obtain⟨xs,hq,hx⟩:=hg
  obtain⟨its,rv,p,hz⟩:=I.list hq
  obtain⟨f0,f1,f2,f3,f4,f5⟩:=hf it (by simp)
  have hl:=rv.length
  exact wpAny_pyNext_list_end (I.ok.hd hc) st p.isList (by simp;omega) λ h' eb=>⟨rfl,I.turned (t':=s.toks) (λ b o hb e=>eb b o hb e) f0 f1 f3 f4 f5⟩
 self:=λ _ _ _ _ _ st h=>wpAny_pyIter_listiter st h
theorem ze {P:Program}{w:World}{K:PySem.W.Frag}{tg:Expr}(a it:Addr):Turn P w K tg (Itt K a) [it] it (λ i h=>h.IsTupleIter it a i) where
 mem:=by simp
 obj:=λ i h st b hb=>by
  have e:b=it:=by simpa using hb
  subst e
  obtain⟨o,e,c,d⟩:=st
  exact⟨o,e,λ v z=>by rw[d]at z;cases z⟩
 keep:=λ i h h' st k=>st.at λ o e=>k it (by simp) o e
 item:=by
  intro X hP hw hK hc i pins s σ H E I hf st hg
  subst hP hw hK
  obtain⟨xs,x,hq,hx⟩:=hg
  obtain⟨its,rv,p,hz⟩:=I.tuple hq
  obtain⟨u,hu,ru⟩:=rv.get hx
  obtain⟨f0,f1,f2,f3,f4,f5⟩:=hf it (by simp)
  refine wpAny_pyNext_tuple_item st (show s.heap.IsTuple a its.toArray from p) (x:=u) (by simpa using hu) λ h' st' sb=>?_
  have I1:Inv X pins σ H {s with heap:=h'}:=I.turned (t':=s.toks) (λ b o hb e=>(sb.2 b hb).trans e) f0 f1 f3 f4 f5
  obtain⟨o,e,c,d⟩:=id st'
  exact⟨u,rfl,AE (s:={s with heap:=h'}) e c d (by decide) ⟨x,H,I1,ru,⟨rfl,λ ys hy=>by rw[I.oM hy hq];exact hx⟩,st',λ b hb=>(hf b hb).1⟩⟩
 done:=by
  intro X hP hw hK hc i pins s σ H E I hf st hg
  subst hP hw hK
  obtain⟨xs,hq,hx⟩:=hg
  obtain⟨its,rv,p,hz⟩:=I.tuple hq
  obtain⟨f0,f1,f2,f3,f4,f5⟩:=hf it (by simp)
  have hl:=rv.length
  exact wpAny_pyNext_tuple_end (I.ok.hd hc) st (show s.heap.IsTuple a its.toArray from p) (by simp;omega) λ h' eb=>⟨rfl,I.turned (t':=s.toks) (λ b o hb e=>eb b o hb e) f0 f1 f3 f4 f5⟩
 self:=λ _ _ _ _ _ st h=>wpAny_pyIter_tupleiter st h
theorem zh {P:Program}{w:World}{K:PySem.W.Frag}{tg:Expr}(it:Addr)(lo:Int)(n:Nat):Turn P w K tg (Itr lo n) [it] it (λ i h=>IsRangeIter h it (lo+(i:Nat)*1) ((n:Int)-(i:Nat)) 1) where
 mem:=by simp
 obj:=λ i h st b hb=>by
  have e:b=it:=by simpa using hb
  subst e
  exact⟨_,st,λ v z=>by
   have z':Data.fields _=Data.cell v:=z
   cases z'⟩
 keep:=λ i h h' st k=>k it (by simp) _ st
 item:=by
  intro X hP hw hK hc i pins s σ H E I hf st hg
  subst hP hw hK
  obtain⟨f0,f1,f2,f3,f4,f5⟩:=hf it (by simp)
  have W:=Walks.range (prog:=X.prog) (w:=X.w) (I.ok.hd hc) it lo 1 n
  refine W.item i s _ _ hg st λ v h' tk hv st' kk=>?_
  obtain⟨t,rfl⟩:=hv
  have I1:Inv X pins σ H {s with heap:=h',toks:=tk}:=I.turned (λ b o hb e=>kk b o (by simpa using hb) e) f0 f1 f3 f4 f5
  refine⟨_,rfl,AE (s:={s with heap:=h',toks:=tk}) (n:="range_iterator") st' rfl rfl (by decide) ⟨.int (lo+i),H,I1,⟨t,?_⟩,⟨rfl,rfl⟩,st',λ b hb=>(hf b hb).1⟩⟩
  rw[Int.mul_one]
 done:=by
  intro X hP hw hK hc i pins s σ H E I hf st hg
  subst hP hw hK
  obtain⟨f0,f1,f2,f3,f4,f5⟩:=hf it (by simp)
  exact wpAny_pyNext_range_end (I.ok.hd hc) st (by have:n<=i:=hg;omega) λ h' eb=>⟨rfl,I.turned (t':=s.toks) (λ b o hb e=>eb b o hb e) f0 f1 f3 f4 f5⟩
 self:=λ _ _ _ _ _ st h=>wpAny_pyIter_rangeiter st h
section
variable {X:Cx}{tg:Expr}
noncomputable def Dc (K:PySem.W.Frag)(tl:TE):TI:=λ σ H R=>tl σ H λ x H1=>∃ a,x=.ref a/\(∃ xs,SqL K H1 a xs)/\R (Itl K a) H1
noncomputable def Mt (K:PySem.W.Frag)(tl:TE):TI:=λ σ H R=>tl σ H λ x H1=>∃ a,x=.ref a/\(∃ xs,SqT K H1 a xs)/\R (Itt K a) H1
theorem ve {l:Expr}{tl:TE}(hl:PE X l tl):PI X tg l (Dc X.K tl):=by
 intro pins s σ H R I h
 refine thn (hl pins s σ H _ I h) λ v s1 ⟨x,H1,I1,r1,q1⟩=>?_
 obtain⟨a,e,⟨xs,hq⟩,q⟩:=q1
 subst e
 cases r1
 obtain⟨its,rv,p,hz⟩:=I1.list hq
 refine wpAny_pyIter_list p.isList ?_
 refine⟨s1.heap.objs.size,[s1.heap.objs.size],_,_,H1,rfl,I1.kept (t':=s1.toks) λ b o e=>aC _ e,BX a _,⟨_,aG _ rfl,rfl,rfl⟩,λ b hb=>?_,q⟩
 have e:b=s1.heap.objs.size:=by simpa using hb
 subst e
 exact I1.BW (ag _) (I1.hok.fresh (ag _))
theorem De {l:Expr}{tl:TE}(hl:PE X l tl):PI X tg l (Mt X.K tl):=by
 intro pins s σ H R I h
 refine thn (hl pins s σ H _ I h) λ v s1 ⟨x,H1,I1,r1,q1⟩=>?_
 obtain⟨a,e,⟨xs,hq⟩,q⟩:=q1
 subst e
 cases r1
 obtain⟨its,rv,p,hz⟩:=I1.tuple hq
 refine wpAny_pyIter_tuple (show s1.heap.IsTuple a its.toArray from p) ?_
 refine⟨s1.heap.objs.size,[s1.heap.objs.size],_,_,H1,rfl,I1.kept (t':=s1.toks) λ b o e=>aC _ e,ze a _,⟨_,aG _ rfl,rfl,rfl⟩,λ b hb=>?_,q⟩
 have e:b=s1.heap.objs.size:=by simpa using hb
 subst e
 exact I1.BW (ag _) (I1.hok.fresh (ag _))
theorem xb {pins:List (Addr×Obj)}{σ:St}{H:Hp}{s:Shared}{R:It->Hp->Prop}{E:Value->Shared->Prop}{lo hi:Int}{t u v:Tok}{tk:Nat}(I:Inv X pins σ H s)(h1:-(2 ^ 62)<=lo)(h2:lo<2 ^ 62)(h3:-(2 ^ 62)<=hi)(h4:hi<2 ^ 62)
  (q:R (Itr lo (hi-lo).toNat) H):wpAny (model X.prog X.w) X.A (pyIter (.ref s.heap.objs.size)) (PIE X pins σ tg R) E {s with heap:=s.heap.push {cls:=.type "range",data:=.fields #[.int lo t,.int hi u,.int 1 v]},toks:=tk}:=by
 refine wpAny_pyIter_range (IsRange.new ..) (small_one h1 h2 h3 h4) ?_
 have I1:Inv X pins σ H {s with heap:=s.heap.push {cls:=.type "range",data:=.fields #[.int lo t,.int hi u,.int 1 v]},toks:=tk}:=I.kept λ b o e=>aC _ e
 refine⟨(s.heap.push {cls:=.type "range",data:=.fields #[.int lo t,.int hi u,.int 1 v]}).objs.size,[(s.heap.push {cls:=.type "range",data:=.fields #[.int lo t,.int hi u,.int 1 v]}).objs.size],_,_,H,rfl,
  I1.kept (t':=tk) λ b o e=>aC _ e,zh _ lo (hi-lo).toNat,?_,λ b hb=>?_,q⟩
 ·have e1:lo+((0:Nat):Int)*1=lo:=by simp
  have e2:(((hi-lo).toNat:Nat):Int)-((0:Nat):Int)=Builtin.Range.rangeSize lo hi 1:=by rw[rangeSize_one];split<;>omega
  show IsRangeIter _ _ (lo+((0:Nat):Int)*1) ((((hi-lo).toNat:Nat):Int)-((0:Nat):Int)) 1
  rw[e1,e2]
  exact aG _ rfl
 ·have e:b=(s.heap.push {cls:=.type "range",data:=.fields #[.int lo t,.int hi u,.int 1 v]}).objs.size:=by simpa using hb
  subst e
  exact I1.BW (ag _) (I1.hok.fresh (ag _))
noncomputable def AF (ta:TA):TI:=λ σ H R=>ta σ H λ vs H1=>∃ j:Int,vs=[.int j]/\-(2 ^ 62)<=j/\j<2 ^ 62/\R (Itr 0 j.toNat) H1
noncomputable def Hs (ta:TA):TI:=λ σ H R=>ta σ H λ vs H1=>∃ i j:Int,vs=[.int i,.int j]/\(-(2 ^ 62)<=i/\i<2 ^ 62/\-(2 ^ 62)<=j/\j<2 ^ 62)/\R (Itr i (j-i).toNat) H1
theorem jF {a:Expr}{ta:TA}{p pos:Pos}(hg:Gl X "range")(hm:X.mg "range"=none)(ha:PA X [a] ta)(hs:starEach [a] X.env=[(false,eval a X.env)]:=by rfl):PI X tg (.Call (.Name "range" p) [a] [] pos) (AF ta):=by
 intro pins s σ H R I h
 refine Call_ (mK I hg hm boot_range (PyProof.Rows.callWith_type1 (thn (ha pos pins s σ H _ I h) λ us s1 ⟨vs,H1,I1,r1,q1⟩=>?_) hs rfl))
 obtain⟨j,e,q1,q2,q⟩:=q1
 subst e
 cases r1 with
 | cons r rr =>
  cases rr
  obtain⟨t,rfl⟩:=r
  exact call_range_1 (xb I1 (by omega) (by omega) q1 q2 (by simpa using q))
theorem BY {a b:Expr}{ta:TA}{p pos:Pos}(hg:Gl X "range")(hm:X.mg "range"=none)(ha:PA X [a,b] ta)(hs:starEach [a,b] X.env=[(false,eval a X.env),(false,eval b X.env)]:=by rfl)(hs2:starEach [b] X.env=[(false,eval b X.env)]:=by rfl) :
  PI X tg (.Call (.Name "range" p) [a,b] [] pos) (Hs ta):=by
 intro pins s σ H R I h
 refine Call_ (mK I hg hm boot_range (PyProof.Rows.callWith_type1 (thn (ha pos pins s σ H _ I h) λ us s1 ⟨vs,H1,I1,r1,q1⟩=>?_) (by rw[hs,hs2]) (by rw[hs2];rfl)))
 obtain⟨i,j,e,⟨q1,q2,q3,q4⟩,q⟩:=q1
 subst e
 cases r1 with
 | cons r rr =>
  cases rr with
  | cons r' rr =>
   cases rr
   obtain⟨t,rfl⟩:=r
   obtain⟨t',rfl⟩:=r'
   exact call_range_2 (xb I1 q1 q2 q3 q4 q)
noncomputable def xc (wi:TI)(g:TG)(tb:TS):TS:=λ D σ H=>wi σ H λ J H1=>∃ W:Nat->Nat->St->Hp->Prop,(∃ m,W 0 m σ H1)/\∀ i m σ H,W i m σ H ->
 (J.stop i H/\D.nx σ H)\/(J.go i H/\∃ N:St->Hp->Prop,(∀ σ' H',N σ' H'->∃ m',m'<m/\W (i+1) m' σ' H')/\∀ x H',J.yld i H x H'->g x σ H' λ σ2 H2=>tb {D with nx:=N,ct:=N,bk:=D.nx} σ2 H2)
noncomputable def oP (fp:List Addr)(h:Heap):List (Addr×Obj):=fp.filterMap λ b=>(h.get? b).map λ o=>(b,o)
theorem jS {fp:List Addr}{h:Heap}{b:Addr}{o:Obj}(hb:b∈fp)(e:h.get? b=some o):(b,o)∈oP fp h:=List.mem_filterMap.mpr ⟨b,hb,by rw[e];rfl⟩
theorem BZ {fp:List Addr}{h:Heap}{p:Addr×Obj}(hp:p∈oP fp h):p.1∈fp/\h.get? p.1=some p.2:=by
 obtain⟨b,hb,e⟩:=List.mem_filterMap.mp hp
 cases q:h.get? b with
 | none=>rw[q]at e;cases e
 | some o =>
  rw[q]at e
  have e':(b,o)=p:=ao e
  subst e'
  exact⟨hb,q⟩
theorem Inv.pinned {pins:List (Addr×Obj)}{σ:St}{H:Hp}{s:Shared}{fp:List Addr}(I:Inv X pins σ H s)(hf:∀ b∈fp,oO X pins H b)(ho:∀ b∈fp,∃ o,s.heap.get? b=some o/\∀ v,o.data≠.cell v):Inv X (pins++oP fp s.heap) σ H s :=
 I.qL λ p hp=>(List.mem_append.mp hp).elim (λ z=>I.pin p (aI _ z)) λ z=>by
  obtain⟨hb,e⟩:=BZ z
  obtain⟨f0,f1,f2,_⟩:=hf p.1 hb
  obtain⟨o,e',d⟩:=ho p.1 hb
  rw[e]at e';cases e'
  exact⟨e,f0,f1,f2,d⟩
theorem Inv.rA {pins pl:List (Addr×Obj)}{σ:St}{H:Hp}{s:Shared}(I:Inv X (pins++pl) σ H s):Inv X pins σ H s:=I.qL λ p hp=>I.pin p (aI _ (List.mem_append_left _ hp))
theorem jT {iter:Expr}{body:List Stmt}{wi:TI}{g:TG}{tb:TS}{pos:Pos}(hp:PassesOwn (model X.prog X.w) X.A X.env X.xe)(hc:X.calm=true)(hi:PI X tg iter wi)(hg:PG X tg g)(hb:PSs X body tb)
  (hs:∀ x,foldedSetIterable iter X.env x=pure x:=by intro _;rfl):PS X (.For tg iter body [] pos) (xc wi g tb):=by
 intro pins s σ H D I h
 refine wpAny_For (thn (hi pins s σ H _ I h) λ v s1 h1=>thn h1 λ itv s2 h2=>?_) hs
 obtain⟨it,fp,tn,J,H2,e,I2,T,st2,f2,W,⟨m0,w0⟩,turn⟩:=h2
 subst e
 have stat:∀ {H':Hp},(∀ b∈fp,H' b=none)->∀ b∈fp,oO X pins H' b:=λ hn b hb=>⟨hn b hb,(f2 b hb).2⟩
 refine codeAny_forLoop_any (λ n s'=>∃ i σ' H',Inv X pins σ' H' s'/\tn i s'.heap/\(∀ b∈fp,H' b=none)/\W i n σ' H') ?_ m0 ⟨0,σ,H2,I2,st2,λ b hb=>(f2 b hb).1,w0⟩
 rintro n s3 ⟨i,σ3,H3,I3,st3,fr3,w3⟩
 rcases turn i n σ3 H3 w3 with⟨stop,qn⟩ | ⟨go,N,hN,step⟩
 ·refine wpAny_passesOwn hp (thn (T.done X rfl rfl rfl hc i pins s3 σ3 H3 X.xe I3 (stat fr3) st3 stop) λ r s4 ⟨hr,I4⟩=>?_)
  subst hr
  exact wpAny_execs_nil ⟨σ3,H3,I4,qn⟩
 ·refine wpAny_passesOwn hp (thn (T.item X rfl rfl rfl hc i pins s3 σ3 H3 X.xe I3 (stat fr3) st3 go) λ r s4 ⟨u,hr,h4⟩=>?_)
  subst hr
  refine wpAny_passesOwn hp (thn h4 λ _ s5 ⟨x,H5,I5,r5,y5,st5,fr5⟩=>?_)
  have I5':=I5.pinned (stat fr5) (T.obj _ _ st5)
  refine wpAny_passesOwn hp (thn (hg _ s5 σ3 H5 x u _ I5' r5 (step x H5 y5)) λ _ s6 ⟨σ6,H6,I6,q6⟩=>?_)
  refine wpAny_passesOwn hp (thn (hb _ s6 σ6 H6 _ I6 q6) λ f s7 q7=>?_)
  have again:∀ {σ7:St} {H7:Hp},Inv X (pins++oP fp s5.heap) σ7 H7 s7->N σ7 H7->∃ m,m<n/\∃ i σ' H',Inv X pins σ' H' s7/\tn i s7.heap/\(∀ b∈fp,H' b=none)/\W i m σ' H':=λ{σ7 H7} I7 n7=>by
   obtain⟨m',hm,w7⟩:=hN σ7 H7 n7
   refine⟨m',hm,i+1,σ7,H7,I7.rA,T.keep _ _ _ st5 λ b hb o e=>(I7.pin (b,o) (aI _ (aI _ (jS hb e)))).1,λ b hb=>?_,w7⟩
   obtain⟨o,e,d⟩:=T.obj _ _ st5 b hb
   exact(I7.pin (b,o) (aI _ (aI _ (jS hb e)))).2.1
  cases f with
  | next=>obtain⟨σ7,H7,I7,n7⟩:=q7;exact again I7 n7
  | cont=>obtain⟨σ7,H7,I7,n7⟩:=q7;exact again I7 n7
  | brk=>obtain⟨σ7,H7,I7,q7⟩:=q7;exact⟨σ7,H7,I7.rA,q7⟩
  | ret v=>obtain⟨x7,σ7,H7,I7,r7,q7⟩:=q7;exact⟨x7,σ7,H7,I7.rA,r7,q7⟩
end
theorem Df {K:PySem.W.Frag}{a:Addr}{xs:List V}{g:TG}{tb:TS}{D:Ends}{σ:St}{H:Hp}(Pv:Nat->St->Hp->Prop)(h0:Pv 0 σ H)(hl:∀ i σ H,i<=xs.length->Pv i σ H->SqL K H a xs)
  (hs:∀ i x σ H,xs[i]?=some x->Pv i σ H->g x σ H λ σ2 H2=>tb {D with nx:=Pv (i+1),ct:=Pv (i+1),bk:=D.nx} σ2 H2) (hd:∀ σ H,Pv xs.length σ H->D.nx σ H) :
  ∃ W:Nat->Nat->St->Hp->Prop,(∃ m,W 0 m σ H)/\∀ i m σ H,W i m σ H ->
   ((Itl K a).stop i H/\D.nx σ H)\/((Itl K a).go i H/\∃ N:St->Hp->Prop,(∀ σ' H',N σ' H'->∃ m',m'<m/\W (i+1) m' σ' H')/\∀ x H',(Itl K a).yld i H x H'->g x σ H' λ σ2 H2=>tb {D with nx:=N,ct:=N,bk:=D.nx} σ2 H2):=by
 refine⟨λ i m σ H=>m=xs.length-i/\i<=xs.length/\Pv i σ H,⟨xs.length,by simp,Nat.zero_le _,h0⟩,?_⟩
 rintro i m σ H ⟨rfl,hi,p⟩
 have q:=hl i σ H hi p
 by_cases hlt:i<xs.length
 ·refine .inr ⟨⟨xs,xs[i],q,by simp[hlt]⟩,Pv (i+1),λ σ' H' p'=>⟨xs.length-(i+1),by omega,rfl,hlt,p'⟩,λ x H' y=>?_⟩
  obtain⟨e,y⟩:=y
  subst e
  exact hs i x σ _ (y xs q) p
 ·have e:i=xs.length:=by omega
  subst e
  exact .inl ⟨⟨xs,q,ag _⟩,hd σ H p⟩
theorem lN {lo:Int}{n:Nat}{g:TG}{tb:TS}{D:Ends}{σ:St}{H:Hp}(Pv:Nat->St->Hp->Prop)(h0:Pv 0 σ H)
  (hs:∀ i σ H,i<n->Pv i σ H->g (.int (lo+i)) σ H λ σ2 H2=>tb {D with nx:=Pv (i+1),ct:=Pv (i+1),bk:=D.nx} σ2 H2) (hd:∀ σ H,Pv n σ H->D.nx σ H) :
  ∃ W:Nat->Nat->St->Hp->Prop,(∃ m,W 0 m σ H)/\∀ i m σ H,W i m σ H ->
   ((Itr lo n).stop i H/\D.nx σ H)\/((Itr lo n).go i H/\∃ N:St->Hp->Prop,(∀ σ' H',N σ' H'->∃ m',m'<m/\W (i+1) m' σ' H')/\∀ x H',(Itr lo n).yld i H x H'->g x σ H' λ σ2 H2=>tb {D with nx:=N,ct:=N,bk:=D.nx} σ2 H2):=by
 refine⟨λ i m σ H=>m=n-i/\i<=n/\Pv i σ H,⟨n,by simp,Nat.zero_le _,h0⟩,?_⟩
 rintro i m σ H ⟨rfl,hi,p⟩
 by_cases hlt:i<n
 ·refine .inr ⟨hlt,Pv (i+1),λ σ' H' p'=>⟨n-(i+1),by omega,rfl,hlt,p'⟩,λ x H' y=>?_⟩
  obtain⟨e,y⟩:=y
  subst e y
  exact hs i σ _ hlt p
 ·have e:i=n:=by omega
  subst e
  exact .inl ⟨ag _,hd σ H p⟩
theorem xf {c:TT}{tb:TS}{D:Ends}{σ:St}{H:Hp}(Pv:St->Hp->Prop)(μ:St->Hp->Nat)(h0:Pv σ H)
  (hs:∀ σ H,Pv σ H->c σ H λ b H1=>if b=true then tb {D with nx:=λ σ' H'=>Pv σ' H'/\μ σ' H'<μ σ H,ct:=λ σ' H'=>Pv σ' H'/\μ σ' H'<μ σ H,bk:=D.nx} σ H1 else D.nx σ H1)
  (mono:∀ σ H Q Q',(∀ b H1,Q b H1->Q' b H1)->c σ H Q->c σ H Q'):zd c tb D σ H:=by
 refine⟨λ m σ H=>m=μ σ H/\Pv σ H,⟨_,rfl,h0⟩,?_⟩
 rintro m σ H ⟨rfl,p⟩
 refine mono σ H _ _ (λ b H1 q=>?_) (hs σ H p)
 cases b with
 | true=>exact⟨_,λ σ' H' ⟨p',l⟩=>⟨_,l,rfl,p'⟩,q⟩
 | false=>exact q
noncomputable abbrev R2:=V->V->Hp->VK->Prop
noncomputable def OpR (X:Cx)(f:Value->Value->Sem Value)(r:R2):Prop :=
 ∀ (pins:List (Addr×Obj)) (s:Shared) (σ:St) (H:Hp) (x y:V) (v u:Value) (Q:VK),Inv X pins σ H s->RelV x v->RelV y u->r x y H Q ->
  wpAny (model X.prog X.w) X.A (f v u) (EP X pins σ Q) X.xe s
noncomputable def UnR (X:Cx)(f:Value->Sem Value)(r:V->Hp->VK->Prop):Prop :=
 ∀ (pins:List (Addr×Obj)) (s:Shared) (σ:St) (H:Hp) (x:V) (v:Value) (Q:VK),Inv X pins σ H s->RelV x v->r x H Q ->
  wpAny (model X.prog X.w) X.A (f v) (EP X pins σ Q) X.xe s
noncomputable def cG (X:Cx)(f:Value)(r:List V->Hp->VK->Prop):Prop :=
 ∀ (pins:List (Addr×Obj)) (s:Shared) (σ:St) (H:Hp) (xs:List V) (us:List Value) (Q:VK),Inv X pins σ H s->Vals xs us->r xs H Q ->
  wpAny (model X.prog X.w) X.A (call f us) (EP X pins σ Q) X.xe s
noncomputable def Mu (X:Cx)(r:V->Hp->(Bool->Hp->Prop)->Prop):Prop :=
 ∀ (pins:List (Addr×Obj)) (s:Shared) (σ:St) (H:Hp) (x:V) (v:Value) (Q:Bool->Hp->Prop),Inv X pins σ H s->RelV x v->r x H Q ->
  wpAny (model X.prog X.w) X.A (truthy v) (TP X pins σ Q) X.xe s
noncomputable def tOp (r:R2)(ta tb:TE):TE:=λ σ H Q=>ta σ H λ x H1=>tb σ H1 λ y H2=>r x y H2 Q
noncomputable def tUn (r:V->Hp->VK->Prop)(ta:TE):TE:=λ σ H Q=>ta σ H λ x H1=>r x H1 Q
noncomputable def rI (C:Int->Int->Prop)(g:Int->Int->V):R2:=λ x y H Q=>∃ i j,x=.int i/\y=.int j/\C i j/\Q (g i j) H
noncomputable def rI0 (g:Int->Int->V):R2:=λ x y H Q=>∃ i j,x=.int i/\y=.int j/\Q (g i j) H
noncomputable def rU (g:Int->V):V->Hp->VK->Prop:=λ x H Q=>∃ i,x=.int i/\Q (g i) H
section
variable {X:Cx}{a b c:Expr}{ta tb tc:TE}{pos:Pos}
theorem IA (ha:PE X a ta)(hb:PE X b tb){pins:List (Addr×Obj)}{s:Shared}{σ:St}{H:Hp}{R:V->V->Hp->Prop}(I:Inv X pins σ H s)
  (h:ta σ H λ x H1=>tb σ H1 λ y H2=>R x y H2) {Q:Value->Shared->Prop} {f:Value->Value->Sem Value}
  (hf:∀ v u s2 x y H2,Inv X pins σ H2 s2->RelV x v->RelV y u->R x y H2->wpAny (model X.prog X.w) X.A (f v u) Q X.xe s2) :
  wpAny (model X.prog X.w) X.A (eval a X.env) (λ v s₁=>wpAny (model X.prog X.w) X.A (eval b X.env) (λ u s₂=>wpAny (model X.prog X.w) X.A (f v u) Q X.xe s₂) X.xe s₁) X.xe s:=by
 refine thn (ha pins s σ H _ I h) λ v s1 ⟨x,H1,I1,r1,q1⟩=>?_
 refine thn (hb pins s1 σ H1 _ I1 q1) λ u s2 ⟨y,H2,I2,r2,q2⟩=>?_
 exact hf v u s2 x y H2 I2 r1 r2 q2
theorem cW {op:Operator}{r:R2}(ho:OpR X (binaryOp op) r)(ha:PE X a ta)(hb:PE X b tb):PE X (.BinOp a op b pos) (tOp r ta tb):=by
 intro pins s σ H Q I h
 exact wpAny_BinOp (IA ha hb I h λ v u s2 x y H2 I2 rx ry q=>ho pins s2 σ H2 x y v u Q I2 rx ry q)
theorem Kz {op:UnaryOp}{r:V->Hp->VK->Prop}(ho:UnR X (unaryOp op) r)(ha:PE X a ta):PE X (.UnaryOp op a pos) (tUn r ta):=by
 intro pins s σ H Q I h
 exact UnaryOp_ (thn (ha pins s σ H _ I h) λ v s1 ⟨x,H1,I1,r1,q1⟩=>ho pins s1 σ H1 x v Q I1 r1 q1)
theorem opI {f:Value->Value->Sem Value}{C:Int->Int->Prop}{g:Int->Int->Int}
  (rule:∀ (i j:Int) (t u:Tok) (s:Shared) (Q:Value->Shared->Prop) (E:Value->Shared->Prop),C i j->Q (.int (g i j) s.toks) {s with toks:=s.toks+1}->wpAny (model X.prog X.w) X.A (f (.int i t) (.int j u)) Q E s) :
  OpR X f (rI C λ i j=>.int (g i j)):=by
 intro pins s σ H x y v u Q I rx ry h
 obtain⟨i,j,rfl,rfl,hc,q⟩:=h
 obtain⟨t,rfl⟩:=rx
 obtain⟨t',rfl⟩:=ry
 exact rule i j t t' s _ _ hc ⟨.int (g i j),H,I.tok _,⟨_,rfl⟩,q⟩
theorem KA {f:Value->Value->Sem Value}{g:Int->Int->Int}
  (rule:∀ (i j:Int) (t u:Tok) (s:Shared) (Q:Value->Shared->Prop) (E:Value->Shared->Prop),Q (.int (g i j) s.toks) {s with toks:=s.toks+1}->wpAny (model X.prog X.w) X.A (f (.int i t) (.int j u)) Q E s) :
  OpR X f (rI0 λ i j=>.int (g i j)):=by
 intro pins s σ H x y v u Q I rx ry h
 obtain⟨i,j,rfl,rfl,q⟩:=h
 obtain⟨t,rfl⟩:=rx
 obtain⟨t',rfl⟩:=ry
 exact rule i j t t' s _ _ ⟨.int (g i j),H,I.tok _,⟨_,rfl⟩,q⟩
theorem IB {f:Value->Value->Sem Value}{g:Int->Int->Bool}
  (rule:∀ (i j:Int) (t u:Tok) (s:Shared) (Q:Value->Shared->Prop) (E:Value->Shared->Prop),Q (.bool (g i j)) s->wpAny (model X.prog X.w) X.A (f (.int i t) (.int j u)) Q E s) :
  OpR X f (rI0 λ i j=>.bl (g i j)):=by
 intro pins s σ H x y v u Q I rx ry h
 obtain⟨i,j,rfl,rfl,q⟩:=h
 obtain⟨t,rfl⟩:=rx
 obtain⟨t',rfl⟩:=ry
 exact rule i j t t' s _ _ ⟨.bl (g i j),H,I,rfl,q⟩
noncomputable def Mv (i j:Int):Prop:=0<j/\j<1073741824
noncomputable def Mw (i j:Int):Prop:=0<=j/\j<=1000000/\i.natAbs<2 ^ 64
noncomputable def FO (i j:Int):Prop:=(-(2 ^ 64)<i/\i<2 ^ 64)\/(-(2 ^ 64)<j/\j<2 ^ 64)
theorem FO.ok {i j:Int}(h:FO i j):IntMulOk i j:=by
 rcases h with⟨h1,h2⟩ | ⟨h1,h2⟩
 ·exact .of_left (intBits_le_64 h1 h2)
 ·exact .of_right (intBits_le_64 h1 h2)
theorem jr:OpR X (binaryOp .Add) (rI0 λ i j=>.int (i+j)):=KA λ _ _ _ _ _ _ _ q=>add_int q
theorem rB:OpR X (binaryOp .Sub) (rI0 λ i j=>.int (i-j)):=KA λ _ _ _ _ _ _ _ q=>sub_int q
theorem oQ:OpR X (binaryOp .Mult) (rI FO λ i j=>.int (i*j)):=opI λ _ _ _ _ _ _ _ hc q=>mul_int q hc.ok
theorem FP:OpR X (binaryOp .FloorDiv) (rI Mv λ i j=>.int (i / j)):=opI λ i j _ _ _ _ _ hc q=>by
 have h1:(0:Int)<j:=hc.1
 have h2:j<1073741824:=hc.2
 exact floordiv_int (by omega) (by rw[Int.fdiv_eq_ediv_of_nonneg i (by omega)];exact q) (.inl (PyProof.noPylong_small (by omega)))
theorem oR:OpR X (binaryOp .Mod) (rI (λ _ j=>0<j) λ i j=>.int (i % j)):=opI λ i j _ _ _ _ _ hc q=>by
 have h1:(0:Int)<j:=hc
 exact mod_int' (by omega) (by rw[Int.fmod_eq_emod_of_nonneg i (by omega)];exact q)
theorem Dg:OpR X (binaryOp .Pow) (rI Mw λ i j=>.int (i ^ j.toNat)):=opI λ _ _ _ _ _ _ _ hc q=>pow_int_small hc.1 hc.2.1 hc.2.2 q
theorem unI {f:Value->Sem Value}{g:Int->Int}
  (rule:∀ (i:Int) (t:Tok) (s:Shared) (Q:Value->Shared->Prop) (E:Value->Shared->Prop),Q (.int (g i) s.toks) {s with toks:=s.toks+1}->wpAny (model X.prog X.w) X.A (f (.int i t)) Q E s) :
  UnR X f (rU λ i=>.int (g i)):=by
 intro pins s σ H x v Q I rx h
 obtain⟨i,rfl,q⟩:=h
 obtain⟨t,rfl⟩:=rx
 exact rule i t s _ _ ⟨.int (g i),H,I.tok _,⟨_,rfl⟩,q⟩
theorem IC:UnR X (unaryOp .USub) (rU λ i=>.int (-i)):=unI λ _ _ _ _ _ q=>neg_int q
end
noncomputable def ID:V->V->Bool
 | .non,.non=>true | .non,.int _=>true | .int _,.non=>true | .non,.bl _=>true | .bl _,.non=>true | .non,.str _=>true | .str _,.non=>true
 | .int _,.int _=>true | .bl _,.bl _=>true | .str _,.str _=>true | .byt _,.byt _=>true
 | .int _,.str _=>true | .str _,.int _=>true | .bl _,.str _=>true | .str _,.bl _=>true
 | _,_=>false
noncomputable def rEq:R2:=λ x y H Q=>ID x y=true/\Q (.bl (decide (x=y))) H
noncomputable def rNe:R2:=λ x y H Q=>ID x y=true/\Q (.bl (!decide (x=y))) H
theorem vf {i j:Int}:decide (V.int i=V.int j)=(i==j):=by
 rw[Bool.eq_iff_iff]
 simp
theorem zi {i j:Bool}:decide (V.bl i=V.bl j)=(i==j):=by
 rw[Bool.eq_iff_iff]
 simp
theorem vg {i j:Str}:decide (V.str i=V.str j)=(i==j):=by
 rw[Bool.eq_iff_iff]
 simp
theorem AG {i j:Array UInt8}:decide (V.byt i=V.byt j)=(i.toList==j.toList):=by
 rw[Bool.eq_iff_iff]
 cases i
 cases j
 simp
section
variable {X:Cx}{a b c:Expr}{ta tb tc:TE}{pos:Pos}
theorem bY {pins:List (Addr×Obj)}{σ:St}{H:Hp}{s:Shared}{Q:VK}{k k':Bool}(I:Inv X pins σ H s)(q:Q (.bl k) H)(e:k=k'):EP X pins σ Q (.bool k') s:=by
 subst e
 exact⟨.bl k,H,I,rfl,q⟩
theorem KC:OpR X (compareOp .Eq) rEq:=by
 intro pins s σ H x y v u Q I rx ry h
 obtain⟨hs,q⟩:=h
 cases x with
 | non =>
  cases rx
  cases y with
  | non=>cases ry;exact PySem.EqNone.eq_none_none (bY I q (by simp))
  | bl j=>cases ry;exact PySem.EqNone.eq_none_bool (bY I q (by simp))
  | int j=>obtain⟨t',rfl⟩:=ry;exact PySem.EqNone.eq_none_int (bY I q (by simp))
  | str j=>obtain⟨t',rfl⟩:=ry;exact PySem.EqNone.eq_none_str (bY I q (by simp))
  | _=>exact absurd (show false=true from hs) aq
 | bl i =>
  cases rx
  cases y with
  | non=>cases ry;exact PySem.EqNone.eq_bool_none (bY I q (by simp))
  | bl j=>cases ry;exact eq_bool (bY I q zi)
  | str j=>obtain⟨t',rfl⟩:=ry;exact PySem.EqMixed.eq_bool_str (bY I q (by simp))
  | _=>exact absurd (show false=true from hs) aq
 | int i =>
  obtain⟨t,rfl⟩:=rx
  cases y with
  | non=>cases ry;exact PySem.EqNone.eq_int_none (bY I q (by simp))
  | int j=>obtain⟨t',rfl⟩:=ry;exact eq_int (bY I q vf)
  | str j=>obtain⟨t',rfl⟩:=ry;exact PySem.EqMixed.eq_int_str (bY I q (by simp))
  | _=>exact absurd (show false=true from hs) aq
 | str i =>
  obtain⟨t,rfl⟩:=rx
  cases y with
  | non=>cases ry;exact PySem.EqNone.eq_str_none (bY I q (by simp))
  | bl j=>cases ry;exact PySem.EqMixed.eq_str_bool (bY I q (by simp))
  | int j=>obtain⟨t',rfl⟩:=ry;exact PySem.EqMixed.eq_str_int (bY I q (by simp))
  | str j=>obtain⟨t',rfl⟩:=ry;exact eq_str (bY I q vg)
  | _=>exact absurd (show false=true from hs) aq
 | byt i =>
  obtain⟨t,rfl⟩:=rx
  cases y with
  | byt j=>obtain⟨t',rfl⟩:=ry;exact PySem.W.eq_bytes (bY I q AG)
  | _=>exact absurd (show false=true from hs) aq
 | _=>cases y<;>exact absurd (show false=true from hs) aq
theorem Ht:OpR X (compareOp .NotEq) rNe:=by
 intro pins s σ H x y v u Q I rx ry h
 obtain⟨hs,q⟩:=h
 cases x with
 | non =>
  cases rx
  cases y with
  | non=>cases ry;exact PySem.EqNone.ne_none_none (bY I q (by simp))
  | bl j=>cases ry;exact PySem.EqNone.ne_none_bool (bY I q (by simp))
  | int j=>obtain⟨t',rfl⟩:=ry;exact PySem.EqNone.ne_none_int (bY I q (by simp))
  | str j=>obtain⟨t',rfl⟩:=ry;exact PySem.EqNone.ne_none_str (bY I q (by simp))
  | _=>exact absurd (show false=true from hs) aq
 | bl i =>
  cases rx
  cases y with
  | non=>cases ry;exact PySem.EqNone.ne_bool_none (bY I q (by simp))
  | bl j=>cases ry;exact ne_bool (bY I q (congrArg not zi))
  | str j=>obtain⟨t',rfl⟩:=ry;exact PySem.EqMixed.ne_bool_str (bY I q (by simp))
  | _=>exact absurd (show false=true from hs) aq
 | int i =>
  obtain⟨t,rfl⟩:=rx
  cases y with
  | non=>cases ry;exact PySem.EqNone.ne_int_none (bY I q (by simp))
  | int j=>obtain⟨t',rfl⟩:=ry;exact ne_int (bY I q (congrArg not vf))
  | str j=>obtain⟨t',rfl⟩:=ry;exact PySem.EqMixed.ne_int_str (bY I q (by simp))
  | _=>exact absurd (show false=true from hs) aq
 | str i =>
  obtain⟨t,rfl⟩:=rx
  cases y with
  | non=>cases ry;exact PySem.EqNone.ne_str_none (bY I q (by simp))
  | bl j=>cases ry;exact PySem.EqMixed.ne_str_bool (bY I q (by simp))
  | int j=>obtain⟨t',rfl⟩:=ry;exact PySem.EqMixed.ne_str_int (bY I q (by simp))
  | str j=>obtain⟨t',rfl⟩:=ry;exact ne_str (bY I q (congrArg not vg))
  | _=>exact absurd (show false=true from hs) aq
 | byt i =>
  obtain⟨t,rfl⟩:=rx
  cases y with
  | byt j=>obtain⟨t',rfl⟩:=ry;exact PySem.W.ne_bytes (bY I q (congrArg not AG))
  | _=>exact absurd (show false=true from hs) aq
 | _=>cases y<;>exact absurd (show false=true from hs) aq
theorem Hu:OpR X (compareOp .Lt) (rI0 λ i j=>.bl (decide (i<j))):=IB λ _ _ _ _ _ _ _ q=>lt_int q
theorem KD:OpR X (compareOp .LtE) (rI0 λ i j=>.bl (decide (i<=j))):=IB λ _ _ _ _ _ _ _ q=>le_int q
theorem Hv:OpR X (compareOp .GtE) (rI0 λ i j=>.bl (decide (j<=i))):=IB λ _ _ _ _ _ _ _ q=>ge_int q
theorem OpR.or {f:Value->Value->Sem Value}{r r':R2}(h:OpR X f r)(h':OpR X f r'):OpR X f (λ x y H Q=>r x y H Q\/r' x y H Q):=by
 intro pins s σ H x y v u Q I rx ry q
 rcases q with q | q
 ·exact h pins s σ H x y v u Q I rx ry q
 ·exact h' pins s σ H x y v u Q I rx ry q
theorem rC (b:Expr){op:CmpOp}(h:op≠.In:=by decide)(h2:op≠.NotIn:=by decide):behindInMarks op b=false:=by
 have e1:(op==CmpOp.In)=false:=by cases op<;>first | rfl | exact absurd rfl h
 have e2:(op==CmpOp.NotIn)=false:=by cases op<;>first | rfl | exact absurd rfl h2
 cases b<;>simp[behindInMarks,e1,e2]
theorem FQ {op:CmpOp}{r:R2}(ho:OpR X (compareOp op) r)(ha:PE X a ta)(hb:PE X b tb)(hm:behindInMarks op b=false):PE X (.Compare a [op] [b] pos) (tOp r ta tb):=by
 intro pins s σ H Q I h
 exact wpAny_Compare1 (IA ha hb I h λ v u s2 x y H2 I2 rx ry q=>ho pins s2 σ H2 x y v u Q I2 rx ry q) hm
noncomputable def Dh (t:TE):TT:=λ σ H Q=>t σ H λ x H'=>∃ k,x=.bl k/\Q k H'
theorem qN {op:CmpOp}{r:R2}(ho:OpR X (compareOp op) r)(ha:PE X a ta)(hb:PE X b tb)(hm:behindInMarks op b=false):PT X (.Compare a [op] [b] pos) (Dh (tOp r ta tb)):=by
 intro pins s σ H Q I h
 refine wpAny_isTrue_Compare1 (thn (ha pins s σ H _ I h) λ v s1 ⟨x,H1,I1,r1,q1⟩=>thn (hb pins s1 σ H1 _ I1 q1) λ u s2 ⟨y,H2,I2,r2,q2⟩ =>
  thn (ho pins s2 σ H2 x y v u _ I2 r1 r2 q2) λ c s3 ⟨z,H3,I3,r3,k,e,q3⟩=>?_) hm
 subst e
 cases r3
 exact wpAny_truthy_bool ⟨H3,I3,q3⟩
noncomputable def zj (r r':R2)(ta tb tc:TE):TE:=λ σ H Q=>ta σ H λ x H1=>tb σ H1 λ y H2=>r x y H2 λ z H3=>∃ k,z=.bl k /\
 (if k=true then tc σ H3 λ w' H4=>r' y w' H4 Q else Q (.bl false) H3)
theorem Di {op op':CmpOp}{r r':R2}(ho:OpR X (compareOp op) r)(ho':OpR X (compareOp op') r')(ha:PE X a ta)(hb:PE X b tb)(hc:PE X c tc)
  (hm:lastMarks [op,op'] [b,c]=false:=by with_unfolding_all rfl):PE X (.Compare a [op,op'] [b,c] pos) (zj r r' ta tb tc):=by
 intro pins s σ H Q I h
 refine Compare_chain (thn (ha pins s σ H _ I h) λ v s1 ⟨x,H1,I1,r1,q1⟩=>chain_link (thn (hb pins s1 σ H1 _ I1 q1) λ u s2 ⟨y,H2,I2,r2,q2⟩ =>
  thn (ho pins s2 σ H2 x y v u _ I2 r1 r2 q2) λ d s3 ⟨z,H3,I3,r3,k,e,q3⟩=>?_)) hm
 subst e
 cases r3
 refine wpAny_truthy_bool ?_
 cases k with
 | false=>exact ite_ff ⟨.bl false,H3,I3,rfl,q3⟩
 | true=>exact ite_tt (chain_last (thn (hc pins s3 σ H3 _ I3 q3) λ w' s4 ⟨z',H4,I4,r4,q4⟩=>ho' pins s4 σ H4 y z' u w' Q I4 r2 r4 q4))
theorem Dj {op op':CmpOp}{r r':R2}(ho:OpR X (compareOp op) r)(ho':OpR X (compareOp op') r')(ha:PE X a ta)(hb:PE X b tb)(hc:PE X c tc)
  (hm:lastMarks [op,op'] [b,c]=false:=by with_unfolding_all rfl):PT X (.Compare a [op,op'] [b,c] pos) (Dh (zj r r' ta tb tc)):=by
 intro pins s σ H Q I h
 refine isTrue_chain (thn (ha pins s σ H _ I h) λ v s1 ⟨x,H1,I1,r1,q1⟩=>test_link (thn (hb pins s1 σ H1 _ I1 q1) λ u s2 ⟨y,H2,I2,r2,q2⟩ =>
  thn (ho pins s2 σ H2 x y v u _ I2 r1 r2 q2) λ d s3 ⟨z,H3,I3,r3,k,e,q3⟩=>?_)) hm
 subst e
 cases r3
 refine wpAny_truthy_bool ?_
 cases k with
 | false =>
  obtain⟨k',e',q'⟩:=q3
  cases e'
  exact ite_ff ⟨H3,I3,q'⟩
 | true =>
  refine ite_tt (test_last (thn (hc pins s3 σ H3 _ I3 q3) λ w' s4 ⟨z',H4,I4,r4,q4⟩=>thn (ho' pins s4 σ H4 y z' u w' _ I4 r2 r4 q4) λ d' s5 ⟨z2,H5,I5,r5,k2,e2,q5⟩=>?_))
  subst e2
  cases r5
  exact wpAny_truthy_bool ⟨H5,I5,q5⟩
noncomputable def FR (K:PySem.W.Frag)(x:V)(H:Hp)(k:Bool):Prop :=
 match x with
 | .non=>k=false
 | .bl b=>k=b
 | .int i=>k=(i != 0)
 | .str y=>y.length<=sizeLine/\k=((y.length:Int) != 0)
 | .byt y=>y.size<=sizeLine/\k=((y.size:Int) != 0)
 | .ref p=>(∃ xs,SqL K H p xs/\k=!xs.isEmpty)\/(∃ xs,SqT K H p xs/\k=!xs.isEmpty)\/∃ kvs,H p=some (.dK kvs)/\k=!kvs.isEmpty
 | _=>False
theorem zk {κ:Type}{kvs:List (κ×V)}{vs:List (κ×Value)}(r:KV kvs vs):(!vs.isEmpty)=!kvs.isEmpty:=by
 cases r<;>rfl
theorem rE {xs:List V}{its:List Value}(r:Vals xs its):(!its.toArray.isEmpty)=!xs.isEmpty:=by
 cases r<;>simp
theorem oT:(sizeLine:Nat)<2 ^ 63:=by rw[sizeLine_eq];decide
theorem IE:Mu X (λ x H Q=>∃ k,FR X.K x H k/\Q k H):=by
 intro pins s σ H x v Q I rx h
 obtain⟨k,e,q⟩:=h
 have hl:=oT
 have hs:sizeLine=16777216:=sizeLine_eq
 cases x with
 | non =>
  cases rx
  have e':k=false:=e
  subst e'
  exact truthy_none ⟨H,I,q⟩
 | bl b =>
  cases rx
  have e':k=b:=e
  subst e'
  exact wpAny_truthy_bool ⟨H,I,q⟩
 | int i =>
  obtain⟨t,rfl⟩:=rx
  have e':k=(i != 0):=e
  subst e'
  exact PySem.P.truthy_int ⟨H,I,q⟩
 | str y =>
  obtain⟨t,rfl⟩:=rx
  obtain⟨hy,e'⟩:y.length<=sizeLine/\k=((y.length:Int) != 0):=e
  subst e'
  exact PySem.P.truthy_str (by omega) ⟨H,I.tok _,q⟩
 | byt y =>
  obtain⟨t,rfl⟩:=rx
  obtain⟨hy,e'⟩:y.size<=sizeLine/\k=((y.size:Int) != 0):=e
  subst e'
  exact PySem.W.truthy_bytes (by omega) ⟨H,I.tok _,q⟩
 | ref p =>
  cases rx
  have e':(∃ xs,SqL X.K H p xs/\k=!xs.isEmpty)\/(∃ xs,SqT X.K H p xs/\k=!xs.isEmpty)\/∃ kvs,H p=some (.dK kvs)/\k=!kvs.isEmpty:=e
  rcases e' with⟨xs,hx,e'⟩ | ⟨xs,hx,e'⟩ | ⟨kvs,hx,e'⟩
  ·subst e'
   obtain⟨its,r,pl,hz⟩:=I.list hx
   have hlen:=r.length
   exact wpAny_truthy_list pl.isList (by simp only[ax];omega) ⟨H,I.tok _,by rw[rE r];exact q⟩
  ·subst e'
   obtain⟨its,r,pl,hz⟩:=I.tuple hx
   have hlen:=r.length
   exact truthy_tuple pl (by simp only[ax];omega) ⟨H,I.tok _,by rw[rE r];exact q⟩
  ·subst e'
   obtain⟨hz,hS,vs,r,m⟩:kvs.length<=sizeLine/\(p==sysModules)=false/\∃ vs,KV kvs vs/\s.heap.DictOf (cv X.prog X.w) p vs:=I.hok p _ hx
   have hlen:kvs.length=vs.length:=Paired.length r
   exact wpAny_truthy_dict hS m (by omega) ⟨H,I.tok _,by rw[zk r];exact q⟩
 | _=>exact(show False from e).elim
theorem xg (ha:PE X a ta)(he:∀ whole,isTrue a X.env whole=(do let v<-whole;standAt a.pos;holding [v] (truthy v))) :
  PT X a (λ σ H Q=>ta σ H λ x H'=>∃ k,FR X.K x H' k/\Q k H'):=by
 intro pins s σ H Q I h
 exact isTrue_plain (thn (ha pins s σ H _ I h) λ v s1 ⟨x,H1,I1,r1,q1⟩=>IE pins s1 σ H1 x v Q I1 r1 q1) (he _)
theorem vals1 {x:V}{us:List Value}(r:Vals [x] us):∃ u,us=[u]/\RelV x u:=by
 cases r with
 | cons r1 r2=>cases r2;exact⟨_,rfl,r1⟩
theorem vals2 {x y:V}{us:List Value}(r:Vals [x,y] us):∃ u w',us=[u,w']/\RelV x u/\RelV y w':=by
 cases r with
 | cons r1 r2 =>
  cases r2 with
  | cons r3 r4=>cases r4;exact⟨_,_,rfl,r1,r3⟩
theorem Dl:cG X (.builtin "abs") (λ xs H Q=>∃ i,xs=[.int i]/\Q (.int (if i<0 then -i else i)) H):=by
 intro pins s σ H xs us Q I r h
 obtain⟨i,rfl,q⟩:=h
 obtain⟨u,rfl,t,rfl⟩:=vals1 r
 exact call_abs_int λ u tk=>⟨.int (if i<0 then -i else i),H,I.tok _,⟨_,rfl⟩,q⟩
theorem oU (hc:X.calm=true):cG X (.builtin "max") (λ xs H Q=>∃ i j,xs=[.int i,.int j]/\Q (.int (if j>i then j else i)) H):=by
 intro pins s σ H xs us Q I r h
 obtain⟨i,j,rfl,q⟩:=h
 obtain⟨u,w',rfl,⟨t,rfl⟩,⟨t',rfl⟩⟩:=vals2 r
 refine max_two_ints (I.ok.hd hc) λ h' tk k=>⟨_,H,I.kept k,?_,q⟩
 by_cases hj:j>i
 ·rw[ae hj,ae hj];exact⟨_,rfl⟩
 ·rw[af hj,af hj];exact⟨_,rfl⟩
theorem oV (hc:X.calm=true):cG X (.builtin "min") (λ xs H Q=>∃ i j,xs=[.int i,.int j]/\Q (.int (if j<i then j else i)) H):=by
 intro pins s σ H xs us Q I r h
 obtain⟨i,j,rfl,q⟩:=h
 obtain⟨u,w',rfl,⟨t,rfl⟩,⟨t',rfl⟩⟩:=vals2 r
 refine min_two_ints (I.ok.hd hc) λ h' tk k=>⟨_,H,I.kept k,?_,q⟩
 by_cases hj:j<i
 ·rw[ae hj,ae hj];exact⟨_,rfl⟩
 ·rw[af hj,af hj];exact⟨_,rfl⟩
end
structure IF (h:Heap)(x dx C:Addr)(mA:Str->Option Value):Prop where
 obj:h.get? x=some (PySem.W.instObj C dx)
 ns:h.Ns1 dx mA
 ne:dx≠x
set_option tactic.hygienic true in
theorem B0 {h:Heap}{dx:Addr}{mA:Str->Option Value}(n:h.Ns1 dx mA):∃ od,h.get? dx=some od/\∀ name,PySem.W.lookIn name od=some (mA name):=by
 obtain⟨o,es,ep,ho,hd,hk,_,hm⟩:=n
 refine⟨o,ho,λ name=>?_⟩
 have e:=hm name
 unfold nsFind findBy at e
 rw[<-Array.find?_toList]at e
 unfold PySem.W.lookIn
 rw[hd]
 dsimp only
 split
 ·rename_i y q
  rw[q]at e
  exact congrArg some e
 ·rename_i q
  rw[q]at e
  have a:es.toList.any (·.refKey)=false:=by
   rw[List.any_eq_false]
   intro y hy
   obtain⟨z,t,hkey⟩:=hk y (Array.mem_toList_iff.mp hy)
   simp[DictEntry.refKey,hkey]
  have a':¬ es.toList.any (·.refKey)=true:=by rw[a];exact aq
  rw[af a']
  exact congrArg some e
theorem IF.look {h:Heap}{x dx C:Addr}{mA:Str->Option Value}(I:IF h x dx C mA):∃ od,PySem.W.InstAt h x (PySem.W.instObj C dx) C (some od)/\∀ name,PySem.W.lookIn name od=some (mA name) :=
 let ⟨od,ho,hl⟩:=B0 I.ns
 ⟨od,⟨I.obj,rfl,rfl,ho⟩,hl⟩
section
variable {prog:Program}{w:World}{A:Around}{E:Value->Shared->Prop}{s:Shared}{K:PySem.W.Frag}{x dx C f:Addr}{mA:Str->Option Value}{name:Str}{v:Value}
end
theorem oK.some_of {v:V}{o:Option Value}(r:oK (some v) o):∃ u,o=some u/\RelV v u:=by
 cases o with
 | none=>exact(show False from r).elim
 | some u=>exact⟨u,rfl,r⟩
section
variable {P:Program}{w:World}{H H':Hp}{h h':Heap}{a C dx:Addr}{fs fs':List (Str×V)}
theorem vh (hok:HOk P w H h)(e:H a=some (.ins C dx fs)):∃ mA,IF h a dx C mA/\(∀ f,oK (fs.lookup f) (mA f))/\PySem.Within mA (fs.map (·.1))/\fs.length<=1000/\H dx=some (.own a):=by
 obtain⟨d,z,ne,ob,mA,n,r,q⟩:=(show cE P w H h a (.ins C dx fs) from hok a _ e)
 exact⟨mA,⟨ob,n,ne⟩,r,q,z,d⟩
end
structure Cls (K:PySem.W.Frag)(C:Addr):Prop where
 pg:PySem.W.plainGet K C Str.empty=true
 hd:PySem.W.hasDictIn K C=true
 po:PySem.W.plainOver K C=true
 sa:PySem.W.findIn K (.ref C) "__setattr__"=some (some (.builtin "object.__setattr__"))
theorem Cls.get {K:PySem.W.Frag}{C:Addr}(c:Cls K C)(f:Str):PySem.W.plainGet K C f=true:=c.pg
structure Con (K:PySem.W.Frag)(C:Addr)(f:Str)(v:V)(u:Value):Prop where
 at_:PySem.W.findIn K (.ref C) f=some (some u)
 rel:RelV v u
 get:PySem.W.specialIn K u "__get__"=some none
 cp:PySem.W.copiedNames.contains f=false
structure Meth (K:PySem.W.Frag)(C:Addr)(m:Str)(f:Addr):Prop where
 at_:PySem.W.findIn K (.ref C) m=some (some (.ref f))
 fn:PySem.W.isFn K (.ref f)=true
 kp:PySem.W.keepIn K (.ref f)=true
section
variable {X:Cx}{pins:List (Addr×Obj)}{σ:St}{H:Hp}{s:Shared}{a C dx:Addr}{fs:List (Str×V)}{f:Str}{v:V}{A:Around}{E:Value->Shared->Prop}
theorem Inv.made (I:Inv X pins σ H s):Inv X pins σ (upd (upd H s.heap.objs.size (.own (s.heap.objs.size+1))) (s.heap.objs.size+1) (.ins C s.heap.objs.size []))
  {s with heap:=(s.heap.push PySem.W.emptyDict).push (PySem.W.instObj C s.heap.objs.size)}:=by
 have e1:(s.heap.push PySem.W.emptyDict).get? s.heap.objs.size=some PySem.W.emptyDict:=aG s.heap rfl
 have e2:((s.heap.push PySem.W.emptyDict).push (PySem.W.instObj C s.heap.objs.size)).get? (s.heap.objs.size+1)=some (PySem.W.instObj C s.heap.objs.size):=by
  have:=aG (s.heap.push PySem.W.emptyDict) (o:=PySem.W.instObj C s.heap.objs.size) rfl
  rwa [Heap.size_push]at this
 have e3:(s.heap.push PySem.W.emptyDict).Ns s.heap.objs.size (λ _=>none):=⟨PySem.W.emptyDict,#[],_,e1,rfl,(λ e he=>absurd he (by simp)),λ _=>rfl⟩
 have I1:=I.laid (a:=s.heap.objs.size) (o:=.own (s.heap.objs.size+1)) (h':=s.heap.push PySem.W.emptyDict) (t':=s.toks) (λ b u q=>aC _ q) (ag _) ⟨_,e1⟩
 refine I1.laid (a:=s.heap.objs.size+1) (o:=.ins C s.heap.objs.size []) (t':=s.toks) (λ b u q=>aC _ q) (Nat.le_of_eq (Heap.size_push _ _)) ?_
 have ne:s.heap.objs.size≠s.heap.objs.size+1:=Nat.ne_of_lt (Nat.lt_succ_self _)
 refine⟨by rw[aV ne,aU],Nat.zero_le _,ne,e2,λ _=>none,(Heap.Ns1.of_empty e3).at λ o q=>aC _ q,λ _=>True.intro,λ y hy=>absurd rfl hy⟩
end
section
variable {X:Cx}{o e value:Expr}{f:Str}{pos pos' tpos:Pos}{ta tv:TE}
end
section
variable {X:Cx}{pins:List (Addr×Obj)}{σ:St}{H:Hp}{s:Shared}{A:Around}{E:Value->Shared->Prop}{Q:Value->Shared->Prop}{c:Value}{b:Bool}
inductive rF (K:PySem.W.Frag) (H:Hp):V->Value->Prop where
 | non:rF K H .non (.type "NoneType")
 | bl (x:Bool):rF K H (.bl x) (.type "bool")
 | int (i:Int):rF K H (.int i) (.type "int")
 | str (x:Str):rF K H (.str x) (.type "str")
 | flt (x:UInt64):rF K H (.flt x) (.type "float")
 | lst {a:Addr} {xs:List V} (e:H a=some (.lst xs)):rF K H (.ref a) (.type "list")
 | frz {a:Addr} {o:Obj} {xs:List V} (e:H a=some (.frz o (.lst xs))):rF K H (.ref a) (.type "list")
 | tup {a:Addr} {xs:List V} (e:H a=some (.tup xs)):rF K H (.ref a) (.type "tuple")
 | dK {a:Addr} {kvs:List (Key×V)} (e:H a=some (.dK kvs)):rF K H (.ref a) (.type "dict")
 | dT {a:Addr} {kvs:List (List Key×V)} (e:H a=some (.dT kvs)):rF K H (.ref a) (.type "dict")
 | ins {a C dx:Addr} {fs:List (Str×V)} (e:H a=some (.ins C dx fs)) (cl:Cls K C) (ha:PySem.W.findIn K (.ref C) "__class__"=some (some (.builtin "object.__class__")))
   (hn:PySem.W.specialIn K (.builtin "object.__class__") "__get__"=some (some (.builtin "getset_descriptor.__get__"))) (htk:PySem.W.takesIn K (.builtin "object.__class__")=some true)
   (hm:PySem.W.mroIn K C (.type "object")=some true):rF K H (.ref a) (.ref C)
end
structure fG (k:Nat)(A:Around):Prop where
 hd:A.handled=none
 dp:A.depth+3*k+5<recursionLimit
 un:A.units+16*k+200<cLine
theorem fG.mono {j k:Nat}{A:Around}(r:fG k A)(h:j<=k):fG j A:=⟨r.hd,by have:=r.dp;omega,by have:=r.un;omega⟩
theorem fG.deeper {k:Nat}{A:Around}(r:fG (k+1) A)(env:Env):fG k (A.deeper env) :=
 ⟨r.hd,by have:=r.dp;show A.depth+1+3*k+5<_;omega,by have:=r.un;show A.units+3+16*k+200<_;omega⟩
theorem fG.in1 {k:Nat}{A:Around}(r:fG (k+1) A):fG k A.in1 :=
 ⟨r.hd,by have:=r.dp;show A.depth+3*k+5<_;omega,by have:=r.un;show A.units+1+16*k+200<_;omega⟩
theorem fG.depth {k:Nat}{A:Around}(r:fG k A):A.depth<recursionLimit:=by have:=r.dp;omega
theorem fG.units {k:Nat}{A:Around}(r:fG k A):A.units+64<cLine:=by have:=r.un;omega
noncomputable def cK:TA:=λ _ H Q=>Q [] H
noncomputable def bp (ta:TE)(tr:TA):TA:=λ σ H Q=>ta σ H λ x H1=>tr σ H1 λ xs H2=>Q (x::xs) H2
section
variable {X:Cx}{e:Expr}{es:List Expr}{te:TE}{t:TA}{pos:Pos}
theorem bx:PA X [] cK:=λ _ _ _ _ H Q I h=>Calls.spliced_nil ⟨[],H,I,.nil,h⟩
theorem aW (ha:PE X e te)(hr:PA X es t)(hs:starEach (e::es) X.env=(false,eval e X.env)::starEach es X.env:=by rfl):PA X (e::es) (bp te t):=by
 intro pos pins s σ H Q I h
 rw[hs]
 show wpAny _ _ (spliced ((false,eval e X.env)::backTo pos (starEach es X.env))) _ _ s
 refine Calls.spliced_cons (thn (ha pins s σ H _ I h) λ u s1 ⟨x,H1,I1,r1,q1⟩=>?_)
 exact thn (hr pos pins s1 σ H1 _ I1 q1) λ us s2 ⟨xs,H2,I2,r2,q2⟩=>⟨x::xs,H2,I2,.cons r1 r2,q2⟩
noncomputable def B1 (t:TA):TE:=λ σ H Q=>t σ H λ xs H1=>xs.length<=sizeLine/\∀ p,H1 p=none->Q (.ref p) (upd H1 p (.tup xs))
noncomputable def zl (t:TA):TE:=λ σ H Q=>t σ H λ xs H1=>xs.length<=sizeLine/\∀ p,H1 p=none->Q (.ref p) (upd H1 p (.lst xs))
theorem oW {x1}(h:PA X es t):PE X (.Tuple es x1 pos) (B1 t):=by
 intro pins s σ H Q I hq
 refine wpAny_Tuple_spliced (thn (h pos pins s σ H _ I hq) λ us s1 ⟨xs,H1,I1,r,z,q⟩=>⟨by rw[<-r.length];exact z,?_⟩)
 have hf:H1 s1.heap.objs.size=none:=I1.hok.fresh (ag _)
 refine⟨.ref s1.heap.objs.size,upd H1 s1.heap.objs.size (.tup xs),I1.laid (t':=s1.toks) (λ b u e=>aC _ e) (ag _) ?_,rfl,q _ hf⟩
 exact⟨z,us,r,⟨_,aG _ rfl,rfl,_,rfl⟩⟩
theorem jU (h:PA X es t):PE X (.List es pos) (zl t):=by
 intro pins s σ H Q I hq
 refine wpAny_List_spliced (thn (h pos pins s σ H _ I hq) λ us s1 ⟨xs,H1,I1,r,z,q⟩=>⟨by rw[<-r.length];exact z,?_⟩)
 have hf:H1 s1.heap.objs.size=none:=I1.hok.fresh (ag _)
 refine⟨.ref s1.heap.objs.size,upd H1 s1.heap.objs.size (.lst xs),I1.laid (t':=s1.toks) (λ b u e=>aC _ e) (ag _) ?_,rfl,q _ hf⟩
 exact⟨z,us,0,r,aG _ rfl⟩
end
noncomputable abbrev Sp:=List V->Hp->VK->XK->Prop
noncomputable abbrev CXT:=List Env->Hp->Shared->XK->Value->Shared->Prop
structure zm (P:Program)(w:World)(K:PySem.W.Frag)(mg:Str->Option Value)(base:Heap)(A:Around)(outer:List Env)(s:Shared)(H:Hp):Prop where
 frames:A.frames=some outer
 mod:Mod K mg base
 bs:∀ b o,base.get? b=some o->s.heap.get? b=some o/\H b=none
 bsz:base.objs.size<=s.heap.objs.size
 qr:s.heap.FunFrames base outer
 frf:∀ b∈frs outer,H b=none
 hok:HOk P w H s.heap
 bare:AllBare s.gens
noncomputable def CE (outer:List Env)(P:Program)(w:World)(H:Hp)(s:Shared)(Q:VK)(u:Value)(s':Shared):Prop :=
 ∃ v H',s'.os=s.os/\AllBare s'.gens/\Un (frs outer) [] H H' s.heap s'.heap/\HOk P w H' s'.heap/\RelV v u/\Q v H'
noncomputable def CR (CX:CXT)(outer:List Env)(P:Program)(w:World)(H:Hp)(s:Shared)(Q:VK)(E:XK)(r:Result)(s':Shared):Prop :=
 match r with
 | .ok (.ret u)=>CE outer P w H s Q u s'
 | .ok _=>False
 | .error e=>CX outer H s E e s'
structure bQ (P:Program)(w:World)(K:PySem.W.Frag)(mg:Str->Option Value)(base:Heap)(CX:CXT)(k:Nat)(f:Addr)(fd:FuncData)(ps:List Str)(sp:Sp):Prop where
 len:∀ vs H Q E,sp vs H Q E->vs.length=ps.length
 run:∀ (A:Around) (outer:List Env) (s:Shared) (H:Hp) (args:Args) (us:List Value) (vs:List V) (Q:VK) (E:XK),fG k A->zm P w K mg base A outer s H->BindsTo s fd args (ps.zip us)->Vals vs us->sp vs H Q E ->
  codeAny (model P w) A (.call (.ref f) args) (CR CX outer P w H s Q E) s
theorem bQ.mono {P:Program}{w:World}{K:PySem.W.Frag}{mg:Str->Option Value}{base:Heap}{CX:CXT}{j k:Nat}{f:Addr}{fd:FuncData}{ps:List Str}{sp:Sp}(F:bQ P w K mg base CX j f fd ps sp)(h:j<=k) :
  bQ P w K mg base CX k f fd ps sp:=⟨F.len,λ A outer s H args us vs Q E hr=>F.run A outer s H args us vs Q E (hr.mono h)⟩
theorem bQ.imp {P:Program}{w:World}{K:PySem.W.Frag}{mg:Str->Option Value}{base:Heap}{CX:CXT}{k:Nat}{f:Addr}{fd:FuncData}{ps:List Str}{sp sp':Sp}(F:bQ P w K mg base CX k f fd ps sp)
  (h:∀ vs H Q E,sp' vs H Q E->sp vs H Q E):bQ P w K mg base CX k f fd ps sp' :=
 ⟨λ vs H Q E q=>F.len vs H Q E (h _ _ _ _ q),λ A outer s H args us vs Q E hr he hb hv hs=>F.run A outer s H args us vs Q E hr he hb hv (h _ _ _ _ hs)⟩
theorem zm.in1 {P:Program}{w:World}{K:PySem.W.Frag}{mg:Str->Option Value}{base:Heap}{A:Around}{outer:List Env}{s:Shared}{H:Hp}(e:zm P w K mg base A outer s H) :
  zm P w K mg base A.in1 outer s H:=⟨e.frames,e.mod,e.bs,e.bsz,e.qr,e.frf,e.hok,e.bare⟩
section
variable {X:Cx}{pins:List (Addr×Obj)}{σ:St}{H:Hp}{s s':Shared}
theorem Inv.Mx (I:Inv X pins σ H s):zm X.prog X.w X.K X.mg X.base X.A X.stack s H :=
 ⟨I.ok.frames,I.ok.mod,I.bs,Nat.le_trans I.ok.bsz I.sz,I.stack,I.AA,I.hok,I.bare⟩
theorem Inv.after {Q:VK}{u:Value}(I:Inv X pins σ H s)(h:CE X.stack X.prog X.w H s Q u s'):EP X pins σ Q u s':=by
 obtain⟨v,H',os,bare,un,hok,r,q⟩:=h
 obtain⟨hh,g,d,t,os'⟩:=s'
 obtain rfl:os'=s.os:=os
 exact⟨v,H',I.call (h':=hh) (g':=g) (d':=d) (t':=t) (ch:=[]) un hok bare (λ b z=>absurd z (by simp)),r,q⟩
end
noncomputable def iX (sp:Sp)(dvs:List V)(E:XK)(t:TA):TE:=λ σ H Q=>t σ H λ vs H1=>sp (vs++dvs) H1 Q E
noncomputable def Binds (K:PySem.W.Frag)(fd:FuncData)(ps:List Str)(ds:List Value):Prop :=
 ∀ (s:Shared) (us:List Value),K.In s.heap->(us++ds).length=ps.length->BindsTo s fd ⟨us,[]⟩ (ps.zip (us++ds))
theorem Binds.all {K:PySem.W.Frag}{fd:FuncData}{ps:List Str}(h:∀ us:List Value,us.length=ps.length->bindArgs fd ⟨us,[]⟩=pure (ps.zip us)):Binds K fd ps []:=λ s us _ hl=>by
 rw[List.append_nil]at hl ⊢
 exact .of_eq (h us hl)
noncomputable def Passes (CX:CXT)(X:Cx)(E:XK):Prop:=∀ (pins:List (Addr×Obj)) (σ:St) (H:Hp) (s:Shared) (e:Value) (s':Shared),Inv X pins σ H s->CX X.stack H s E e s'->X.xe e s'
section
variable {X:Cx}{CX:CXT}{k:Nat}{f C:Addr}{fd:FuncData}{ps:List Str}{sp:Sp}{dvs:List V}{ds:List Value}{E:XK}{x m:Str}{p pos apos:Pos}{e o:Expr}{es:List Expr}{ta:TE}{t:TA}
theorem IG {pins:List (Addr×Obj)}{σ:St}{H:Hp}{s:Shared}{Q:VK}{us:List Value}{vs:List V}(F:bQ X.prog X.w X.K X.mg X.base CX k f fd ps sp)(hr:fG k X.A)(hb:Binds X.K fd ps ds)(hd:Vals dvs ds)(hx:Passes CX X E)
  (I:Inv X pins σ H s) (r:Vals vs us) (h:sp (vs++dvs) H Q E):wpAny (model X.prog X.w) X.A (call (.ref f) us) (EP X pins σ Q) X.xe s:=by
 have r2:Vals (vs++dvs) (us++ds):=r.append hd
 have hl:(us++ds).length=ps.length:=by rw[<-r2.length];exact F.len _ _ _ _ h
 refine wpAny_call (codeAny_mono (F.run X.A X.stack s H ⟨us,[]⟩ (us++ds) (vs++dvs) Q E hr I.Mx (hb s us I.kIn hl) r2 h) λ r s' hq=>?_)
 cases r with
 | error e=>exact hx pins σ H s e s' I hq
 | ok fl =>
  cases fl with
  | ret u=>exact I.after hq
  | next=>exact False.elim hq
  | brk=>exact False.elim hq
  | cont=>exact False.elim hq
theorem cX (F:bQ X.prog X.w X.K X.mg X.base CX k f fd ps sp)(hr:fG k X.A)(hg:Gl X x)(hm:X.mg x=some (.ref f))(hk:PySem.W.keepIn X.K (.ref f)=true)(hb:Binds X.K fd ps ds)(hd:Vals dvs ds)(hx:Passes CX X E)
  (ha:PA X (e::es) t) (hdb:(x==("__debug__":Str))=false:=by decide) (he:starEach (e::es) X.env=(false,eval e X.env)::starEach es X.env:=by rfl) (hpl:(backTo pos (starEach es X.env)).any (·.1)=false:=by rfl) :
  PE X (.Call (.Name x p) (e::es) [] pos) (iX sp dvs E t):=by
 intro pins s σ H Q I h
 refine wpAny_Call_Name_kw (AB I hg hm ?_ hdb)
 refine PySem.W.callWith_K (h₀:=X.base) I.ok.mod.kin hk (thn (ha pos pins s σ H _ I h) λ us s1 ⟨vs,H1,I1,r,q⟩=>⟨I1.kIn,?_⟩) he hpl
 exact IG F hr hb hd hx I1 r q
structure Mk (K:PySem.W.Frag)(C f:Addr):Prop where
 makes:PySem.W.makesIn K C=true
 init:PySem.W.findIn K (.ref C) "__init__"=some (some (.ref f))
 fn:PySem.W.isFn K (.ref f)=true
 kp:PySem.W.keepIn K (.ref C)=true
end
section
variable {X:Cx}{CX:CXT}{k:Nat}{f C:Addr}{fd:FuncData}{ps ks:List Str}{sp:Sp}{E:XK}{x m:Str}{p pos apos kpos:Pos}{e o:Expr}{es:List Expr}{kws:List Keyword}{te ta:TE}{t tk:TA}{nm:Option Str}
structure Mz (K:PySem.W.Frag)(fd:FuncData)(ps ks:List Str)(g:List Value->List Value->List Value)(gV:List V->List V->List V):Prop where
 to:∀ (s:Shared) (us ws:List Value),K.In s.heap->(g us ws).length=ps.length->BindsTo s fd ⟨us,ks.zip ws⟩ (ps.zip (g us ws))
 rel:∀ {vs:List V} {us:List Value} {zs:List V} {ws:List Value},Vals vs us->Vals zs ws->Vals (gV vs zs) (g us ws)
variable {g:List Value->List Value->List Value}{gV:List V->List V->List V}
end
structure bj (N P:List Str)(sc:Scope):Prop where
 kind:sc.kind=.function
 co:sc.isCoroutine=false
 gen:sc.isGenerator=false
 nd:N.Nodup
 pre:N.take P.length=P
 par:∀ x∈P,sc.names.lookup x=some .local\/sc.names.lookup x=some .cell
 IH:∀ y∈sc.names,y.2≠.free
theorem uw {kindOf:Str->Option NameKind}{x:Str}:∀ {binds:List (Str×Value)} {m:Str->Option Value},(∀ v,(x,v)∉binds)->bindL kindOf binds m x=m x
 | [],_,_=>rfl
 | (n,v)::r,m,h=>by
  unfold bindL
  rw[uw λ w hw=>h w (ak _ hw)]
  split
  ·have:x≠n:=by rintro rfl;exact h v ai
   simp[this]
  ·rfl
theorem ux {kindOf:Str->Option NameKind}{x:Str}:∀ {binds:List (Str×Value)} {m:Str->Option Value},(∀ v,(x,v)∉binds)->bindC kindOf binds m x=m x
 | [],_,_=>rfl
 | (n,v)::r,m,h=>by
  unfold bindC
  rw[ux λ w hw=>h w (ak _ hw)]
  split
  ·rfl
  ·have:x≠n:=by rintro rfl;exact h v ai
   simp[this]
theorem uy {kindOf:Str->Option NameKind}{x:Str}{v:Value}:∀ {P:List Str} {vs:List Value} {i:Nat} {m:Str->Option Value},P.Nodup->P[i]?=some x->vs[i]?=some v->kindOf x=some .local ->
  bindL kindOf (P.zip vs) m x=some v
 | [],_,_,_,_,h,_,_=>by simp at h
 | _::_,[],_,_,_,_,h,_=>by simp at h
 | p::P,w::vs,0,m,nd,h1,h2,hk=>by
  simp at h1 h2;subst h1;subst h2
  show bindL kindOf ((p,w)::P.zip vs) m p=_
  unfold bindL
  rw[uw λ v hv=>(List.nodup_cons.mp nd).1 (List.of_mem_zip hv).1,ae hk]
  simp
 | p::P,w::vs,i+1,m,nd,h1,h2,hk=>by
  show bindL kindOf ((p,w)::P.zip vs) m x=_
  unfold bindL
  exact uy (i:=i) (List.nodup_cons.mp nd).2 (by simpa using h1) (by simpa using h2) hk
theorem uz {kindOf:Str->Option NameKind}{x:Str}{v:Value}:∀ {P:List Str} {vs:List Value} {i:Nat} {m:Str->Option Value},P.Nodup->P[i]?=some x->vs[i]?=some v->kindOf x≠some .local ->
  bindC kindOf (P.zip vs) m x=some v
 | [],_,_,_,_,h,_,_=>by simp at h
 | _::_,[],_,_,_,_,h,_=>by simp at h
 | p::P,w::vs,0,m,nd,h1,h2,hk=>by
  simp at h1 h2;subst h1;subst h2
  show bindC kindOf ((p,w)::P.zip vs) m p=_
  unfold bindC
  rw[ux λ v hv=>(List.nodup_cons.mp nd).1 (List.of_mem_zip hv).1,af hk]
  simp
 | p::P,w::vs,i+1,m,nd,h1,h2,hk=>by
  show bindC kindOf ((p,w)::P.zip vs) m x=_
  unfold bindC
  exact uz (i:=i) (List.nodup_cons.mp nd).2 (by simpa using h1) (by simpa using h2) hk
noncomputable def start (N:List Str)(vs:List V):St:=vs.map some++List.replicate (N.length-vs.length) none
noncomputable def zo (CX:CXT)(P:Program)(w:World)(K:PySem.W.Frag)(mg:Str->Option Value)(base:Heap)(N:List Str)(qual:Str)(scope:Scope)(f:Addr)(cd:Value)(A:Around)(outer:List Env)(s:Shared)(H:Hp)(E:XK):Cx where
 prog:=P
 w:=w
 K:=K
 mg:=mg
 base:=base
 A:=A.deeper (envOfC qual scope s.heap.objs.size f cd)
 N:=N
 s₀:=s
 H₀:=H
 env:=envOfC qual scope s.heap.objs.size f cd
 outer:=outer
 stack:=envOfC qual scope s.heap.objs.size f cd::outer
 ex:=[]
 calm:=true
 fn:=λ _=>true
 pn:=[]
 xe:=λ e s'=>wpAny (model P w) (A.deeper (envOfC qual scope s.heap.objs.size f cd)) (leaving (envOfC qual scope s.heap.objs.size f cd) e) (λ _ s''=>CX outer H s E e s'') (λ e' s''=>CX outer H s E e' s'') s'
theorem xh {sc:Scope}{n:Nat}{x:Str}(h:sc.names.lookup x=some .cell):∃ c,(cellsFrom n sc.names []).lookup x=some c:=by
 have q:=PySem.W.cellsFrom_some sc.names n [] (.inl h)
 exact Option.isSome_iff_exists.mp q
theorem B2 {CX:CXT}{P:Program}{w:World}{K:PySem.W.Frag}{mg:Str->Option Value}{base:Heap}{N ps:List Str}{qual:Str}{scope:Scope}{f:Addr}{cd:Value}{A:Around}{outer:List Env}{s s1:Shared}{H:Hp}{E:XK}{us:List Value}{vs:List V}
  (S:bj N ps scope) (hd:A.handled=none) (e0:zm P w K mg base A outer s H) (hl:vs.length=ps.length) (r:Vals vs us)
  (x:InCallC s s.heap.objs.size (bindL (envOfC qual scope s.heap.objs.size f cd).kindOf (ps.zip us) λ _=>none) (cellsFrom (s.heap.objs.size+1) scope.names []) (bindC (envOfC qual scope s.heap.objs.size f cd).kindOf (ps.zip us) λ _=>none) s1) :
  Inv (zo CX P w K mg base N qual scope f cd A outer s H E) [] (start N vs) H s1:=by
 have hpl:ps.length<=N.length:=by have:=congrArg List.length S.pre;rw[List.length_take]at this;omega
 obtain⟨h1,tk,rfl,hk⟩:=x.done
 have noA:∀ b:Addr,b∉(zo CX P w K mg base N qual scope f cd A outer s H E).ex:=λ b z=>absurd (show b∈([]:List Addr) from z) (by simp)
 refine⟨⟨e0.mod,S.kind,rfl,rfl,ag _,λ y z c h1 h2=>?_,λ y hy=>?_,λ y c _ h=>?_,λ _=>hd,Around.frames_deeper e0.frames,.inr ⟨rfl,rfl⟩,λ b z=>absurd z (noA b),e0.bs,e0.bsz,λ b _ _=>noA b,λ b z=>absurd z (noA b),e0.qr,e0.frf⟩,
  rfl,e0.bare,Un.kept hk,⟨_,x.toInCall.ns,λ i y v h1 h2 h3=>?_⟩,λ y c h=>⟨_,x.cell y c h⟩,e0.hok.fresh (ag _),λ y c h=>?_,λ p hp=>absurd (show p∈([]:List (Addr×Obj)) from hp) (by simp),e0.hok.kept hk,?_⟩
 ·exact name_of_addr x.apart (PySem.mem_of_lookup h1) (PySem.mem_of_lookup h2)
 ·have hy:scope.names.lookup y=some .cell\/scope.names.lookup y=some .free:=hy
  rcases hy with hy | hy
  ·exact xh hy
  ·exact absurd rfl (S.IH _ (PySem.mem_of_lookup hy))
 ·exact Nat.le_of_lt (x.above y c (PySem.mem_of_lookup h))
 ·have hi:i<vs.length:=by
   unfold start at h2
   by_cases hi:i<vs.length
   ·exact hi
   ·rw[List.getElem?_append_right (by simpa using hi)]at h2
    rw[List.getElem?_replicate]at h2
    split at h2<;>cases h2
  have ha:vs[i]?=some v:=by
   unfold start at h2
   rw[List.getElem?_append_left (by simpa using hi),List.getElem?_map]at h2
   cases e:vs[i]? with
   | none=>rw[e]at h2;cases h2
   | some a=>rw[e]at h2;cases h2;rfl
  obtain⟨u,hu,rv⟩:=r.get ha
  have hp:ps[i]?=some y:=by
   rw[<-S.pre,List.getElem?_take_of_lt (by omega)];exact h1
  have ndP:ps.Nodup:=by rw[<-S.pre];exact S.nd.sublist (List.take_sublist _ _)
  refine⟨u,rv,?_⟩
  rcases S.par y (List.mem_of_getElem? hp) with k | k
  ·exact .inl ⟨k,uy ndP hp hu k⟩
  ·obtain⟨c,e⟩:=xh (n:=s.heap.objs.size+1) k
   refine .inr ⟨.inl k,c,e,?_⟩
   have q:=x.cell y c e
   rw[uz ndP hp hu (by show scope.names.lookup y≠_;rw[k];decide)]at q
   exact q
 ·exact e0.hok.fresh (Nat.le_of_lt (x.above y c (PySem.mem_of_lookup h)))
 ·unfold start
  show _=N.length
  rw[List.length_append,ah,List.length_replicate]
  omega
theorem KG {CX:CXT}{P:Program}{w:World}{K:PySem.W.Frag}{mg:Str->Option Value}{base:Heap}{k:Nat}{f:Addr}{name qual:Str}{params:Arguments}{body:List Stmt}{scope:Scope}{dV kV doc pm cdv ct oc:Value}{an od:Option Addr}
  {osl:Array (Option Value)} {N ps:List Str} {sp:Sp} (lk:K.lookup f=some ⟨oc,od,.func (PySem.W.fnOf name qual params body scope dV kV doc pm an cdv ct),osl⟩) (hcd:PySem.W.codeIn K cdv qual=true) (S:bj N ps scope)
  (len:∀ vs H Q E,sp vs H Q E->vs.length=ps.length)
  (hbody:∀ (A:Around) (outer:List Env) (s:Shared) (H:Hp) (vs:List V) (Q:VK) (E:XK),fG k (A.deeper (envOfC qual scope s.heap.objs.size f cdv))->sp vs H Q E ->
   ∃ t,PSs (zo CX P w K mg base N qual scope f cdv A outer s H E) body t/\t {nx:=λ _ H'=>Q .non H',rt:=Q} (start N vs) H) :
  bQ P w K mg base CX (k+1) f (PySem.W.fnOf name qual params body scope dV kV doc pm an cdv ct) ps sp:=by
 refine⟨len,λ A outer s H args us vs Q E hr e0 hb r hsp=>?_⟩
 have hl:=len _ _ _ _ hsp
 have KX:K.In s.heap:=e0.mod.kin.keeps λ b o e=>(e0.bs b o e).1
 have lim:s.heap.NoLimit:=e0.mod.nolimit.keeps λ b o e=>(e0.bs b o e).1
 have hkind:∀ y∈ps.zip us,scope.names.lookup y.1=some .local\/(scope.names.lookup y.1=some .cell/\((cellsFrom (s.heap.objs.size+1) scope.names []).lookup y.1).isSome=true):=λ⟨n,v⟩ hy=>by
  rcases S.par n (List.of_mem_zip hy).1 with q | q
  ·exact .inl q
  ·exact .inr ⟨q,PySem.W.cellsFrom_some _ _ _ (.inl q)⟩
 refine codeAny_call_function hr.depth (KX _ _ lk) rfl S.co S.gen rfl (PySem.W.codeRec_of KX hcd) (hb _ _ _ _ ?_)
 refine wpAny_newFunctionEnv_cells S.kind hkind λ env he s1 x=>?_
 subst he
 refine⟨lim.keeps x.toInCall.keep,codeAny_func ?_⟩
 obtain⟨t,ht,hq⟩:=hbody A outer s H vs Q E (hr.deeper _) hsp
 have I:Inv (zo CX P w K mg base N qual scope f cdv A outer s H E) [] (start N vs) H s1:=B2 S hr.hd e0 hl r x
 refine wpAny_mono (ht [] s1 (start N vs) H _ I hq) (λ fl s' hs=>?_) λ e s' hs=>hs
 have fin:∀ {σ':St} {H':Hp} {v:V} {u:Value},Inv (zo CX P w K mg base N qual scope f cdv A outer s H E) [] σ' H' s'->RelV v u->Q v H'->CE outer P w H s Q u s' :=
  λ{σ' H' v u} J rv q=>⟨v,H',J.os,J.bare,J.base,J.hok,rv,q⟩
 cases fl with
 | ret u =>
  obtain⟨v,σ',H',J,rv,q⟩:=hs
  exact fin J rv q
 | next =>
  obtain⟨σ',H',J,q⟩:=hs
  exact fin (v:=V.non) (u:=Value.none) J rfl q
 | brk =>
  obtain⟨_,_,_,q⟩:=hs
  exact False.elim q
 | cont =>
  obtain⟨_,_,_,q⟩:=hs
  exact False.elim q
section
variable {X:Cx}{x:Str}{p pos:Pos}{e:Expr}{es:List Expr}{t:TA}{id T:String}{r:List V->Hp->VK->Prop}
noncomputable def tCB (r:List V->Hp->VK->Prop)(t:TA):TE:=λ σ H Q=>t σ H λ vs H1=>r vs H1 Q
theorem fH (hc:cG X (.builtin id) r)(hg:Gl X x)(hm:X.mg x=none)(hv:bootBuiltins x=some (.builtin id))(ha:PA X (e::es) t)(hn:x≠"__name__":=by decide)(hdb:(x==("__debug__":Str))=false:=by decide)
  (he:starEach (e::es) X.env=(false,eval e X.env)::starEach es X.env:=by rfl) (hpl:(backTo pos (starEach es X.env)).any (·.1)=false:=by rfl):PE X (.Call (.Name x p) (e::es) [] pos) (tCB r t):=by
 intro pins s σ H Q I h
 refine wpAny_Call_Name_kw (mK I hg hm hv ?_ hn hdb)
 exact PyProof.Rows.callWith_builtin1 (thn (ha pos pins s σ H _ I h) λ us s1 ⟨vs,H1,I1,r1,q1⟩=>hc pins s1 σ H1 vs us Q I1 r1 q1) he hpl
theorem jG (hc:cG X (.type T) r)(hg:Gl X x)(hm:X.mg x=none)(hv:bootBuiltins x=some (.type T))(ha:PA X (e::es) t)(hn:x≠"__name__":=by decide)(hdb:(x==("__debug__":Str))=false:=by decide)
  (he:starEach (e::es) X.env=(false,eval e X.env)::starEach es X.env:=by rfl) (hpl:(backTo pos (starEach es X.env)).any (·.1)=false:=by rfl):PE X (.Call (.Name x p) (e::es) [] pos) (tCB r t):=by
 intro pins s σ H Q I h
 refine wpAny_Call_Name_kw (mK I hg hm hv ?_ hn hdb)
 exact PyProof.Rows.callWith_type1 (thn (ha pos pins s σ H _ I h) λ us s1 ⟨vs,H1,I1,r1,q1⟩=>hc pins s1 σ H1 vs us Q I1 r1 q1) he hpl
end
end L2
namespace HT
open PySem PyProof.Rows
noncomputable def lexLt:List Int->List Int->Bool
 | [],[]=>false
 | [],_::_=>true
 | _::_,[]=>false
 | x::xs,y::ys=>if x=y then lexLt xs ys else decide (x<y)
theorem rG (x y:Int)(xs ys:List Int):lexLt (x::xs) (y::ys)=if x=y then lexLt xs ys else decide (x<y):=rfl
theorem tR:lexLt [] []=false:=rfl
theorem rH (y:Int)(ys:List Int):lexLt [] (y::ys)=true:=rfl
theorem rJ (x:Int)(xs:List Int):lexLt (x::xs) []=false:=rfl
theorem Dm (A:Around)(s:Shared)(a:Int)(t:Tok)(c:Int)(u:Tok):∃ e,SeqAt.EqAt A s (.int a t) (.int c u) e/\(e=true↔a=c) :=
 ⟨(a==c),SeqAt.EqAt.int_int a t c u,by simp⟩
theorem Dn (A:Around)(s:Shared)(a:Int)(t:Tok)(c:Int)(u:Tok)(prog:Program)(w:World)(E:Value->Shared->Prop)(Q:Value->Shared->Prop)(h:Q (.bool (decide (a<c))) s) :
  wpAny (model prog w) A (richCompare .Lt (.int a t) (.int c u)) Q E s :=
 (PyProof.Rows.lt_int h:wpAny (model prog w) A (compareOp .Lt (.int a t) (.int c u)) Q E s)
section
open PySem.SeqAt
open PySem.AutoSeq1 (wpAny_loadPart')
open PySem.MeetsSeq PySem.MeetsSeq2 PySem.MeetsSeq3
theorem tS (l b:Addr)(items items2:Array Value)(n n2:Nat)(dd dd2:Option Addr)(sl sl2:Array (Option Value))(ns ms:List Int)(hi:IntsAre items.toList ns)(hj:IntsAre items2.toList ms) :
  Meets (Builtin.«tuple.__lt__» ⟨[.ref l,.ref b],[]⟩)
   (λ _ R s=>s.heap.get? l=some {cls:=.type "tuple",dict:=dd,data:=.seq items n,slots:=sl}/\s.heap.get? b=some {cls:=.type "tuple",dict:=dd2,data:=.seq items2 n2,slots:=sl2} /\
    R (.ok (.ret (.bool (lexLt ns ms)))) s) :=
 .of_wp λ prog w A R s h=>by
  obtain⟨hp,g,d,tk,os⟩:=s;obtain⟨hl,hb,h⟩:=h
  have f2:=AutoSeq1.sub_tuple_tuple
  have z1:items.size=ns.length:=by rw[<-hi.length];simp
  have z2:items2.size=ms.length:=by rw[<-hj.length];simp
  wp_walk using wpAny_loadPart' hl,wpAny_loadPart' hb,wpAny_forIn_list _ (λ rest b s'=>b.1=none/\s'=⟨hp,g,d,tk,os⟩/\∃ (vs ws:List Value) (ns' ms':List Int),rest=vs.zip ws /\
   IntsAre vs ns'/\IntsAre ws ms'/\ns'.length+items2.size=ms'.length+items.size/\R (.ok (.ret (.bool (lexLt ns' ms')))) ⟨hp,g,d,tk,os⟩) _
  case turn =>
   rintro⟨y,x⟩ rest b s' ⟨hb',rfl,vs,ws,ns',ms',hz,hvi,hwi,hlen,hR⟩
   cases hvi with
   | nil=>rw[List.zip_nil_left]at hz;cases hz
   | cons a t hvi' =>
    cases hwi with
    | nil=>rw[List.zip_nil_right]at hz;cases hz
    | cons c u hwi' =>
     rw[List.zip_cons_cons]at hz
     injection hz with hyx hrest
     injection hyx with hy hx
     subst hy hx
     rw[rG]at hR
     simp only[List.length_cons]at hlen
     obtain⟨e,he,hiff⟩:=Dm A.in1 ⟨hp,g,d,tk,os⟩ a t c u
     refine av (he prog w _ _ ?_)
     cases e with
     | true =>
      rw[ae (hiff.mp rfl)]at hR
      wp_walk
      exact⟨rfl,rfl,_,_,_,_,hrest,hvi',hwi',by omega,hR⟩
     | false =>
      rw[af (λ q=>absurd (hiff.mpr q) aq)]at hR
      have hri:=Dn A.in1 ⟨hp,g,d,tk,os⟩ a t c u prog w
      wp_walk using hri
      exact⟨_,rfl,by simpa using hR⟩
  case fin =>
   rintro⟨b1,b2⟩ s' ⟨hb',rfl,vs,ws,ns',ms',hz,hvi,hwi,hlen,hR⟩
   simp only at hb'
   subst hb'
   have hv:lexLt ns' ms'=decide (items.size<items2.size):=by
    cases hvi with
    | nil =>
     cases hwi with
     | nil =>
      simp only[List.length_nil]at hlen
      rw[tR]
      exact(decide_eq_false (by omega)).symm
     | cons c u hw =>
      simp only[List.length_nil,List.length_cons]at hlen
      rw[rH]
      exact(decide_eq_true (by omega)).symm
    | cons a t hv =>
     cases hwi with
     | nil =>
      simp only[List.length_nil,List.length_cons]at hlen
      rw[rJ]
      exact(decide_eq_false (by omega)).symm
     | cons c u hw =>
      rw[List.zip_cons_cons]at hz
      cases hz
   rw[hv]at hR
   wp_walk
   exact⟨_,rfl,by simpa [Builtin.Tuple.tupleCompareSizes] using hR⟩
  case h =>
   exact⟨rfl,rfl,items.toList,items2.toList,ns,ms,rfl,hi,hj,by omega,h⟩
end
section
variable {prog:Program}{w:World}{A:Around}{E:Value->Shared->Prop}{s:Shared}
theorem rK {l b:Addr}{items items2:Array Value}{ns ms:List Int}{Q:Value->Shared->Prop}(hl:IsTup s.heap l items)(hb:IsTup s.heap b items2)(hi:IntsAre items.toList ns)(hj:IntsAre items2.toList ms)
  (hu:A.units<cLine) (h:Q (.bool (lexLt ns ms)) s):wpAny (model prog w) A (compareOp .Lt (.ref l) (.ref b)) Q E s:=by
 obtain⟨⟨cls,dd,data,sl⟩,ho,hc,n,hd⟩:=id hl
 obtain⟨⟨cls2,dd2,data2,sl2⟩,ho2,hc2,n2,hd2⟩:=id hb
 simp only at hc hd hc2 hd2
 subst hc hd hc2 hd2
 exact richCompare_meets_room (op:=.Lt) ⟨_,ho,rfl⟩ ⟨_,ho2,rfl⟩ PySem.F.slot_tuple_lt PySem.F.entry_tuple_lt (PySem.F.args_tuple_lt_2 _ _) (tS l b items items2 n n2 dd dd2 sl sl2 ns ms hi hj)
  ⟨ho,ho2,show Value.bool (lexLt ns ms)≠Value.notImplemented/\Q (.bool (lexLt ns ms)) s from ⟨(λ x=>nomatch x),h⟩⟩ hu
noncomputable def sIx (n d:Nat):Option Int->Nat
 | none=>d
 | some v=>if v<0 then (v+(n:Int)).toNat else min v.toNat n
theorem Dp (n d:Nat):sIx n d none=d:=rfl
theorem AH (n d k:Nat):sIx n d (some (k:Int))=min k n:=by
 show(if (k:Int)<0 then ((k:Int)+(n:Int)).toNat else min (k:Int).toNat n)=min k n
 rw[af (by omega),Int.toNat_natCast]
theorem II (n d:Nat)(hd:d<=n)(o:Option Int):sIx n d o<=n:=by
 cases o with
 | none=>exact hd
 | some v =>
  show(if v<0 then (v+(n:Int)).toNat else min v.toNat n)<=n
  by_cases hv:v<0
  ·rw[ae hv];omega
  ·rw[af hv];exact Nat.min_le_right _ _
theorem AI (v:Int)(n d:Nat):(if v<0 then max (v+(n:Int)) 0 else min v (n:Int))=((sIx n d (some v):Nat):Int):=by
 show(if v<0 then max (v+(n:Int)) 0 else min v (n:Int))=(((if v<0 then (v+(n:Int)).toNat else min v.toNat n):Nat):Int)
 by_cases hv:v<0
 ·simp only[ae hv];omega
 ·simp only[af hv];omega
theorem zq (lo hi:Option Int)(n:Nat):Builtin.Slice.sliceAdjust lo hi 1 (n:Int)=(((sIx n 0 lo:Nat):Int),((sIx n n hi:Nat):Int)):=by
 have h1:¬ ((1:Int)<0):=by omega
 unfold Builtin.Slice.sliceAdjust
 simp only[h1,if_false]
 refine Prod.ext ?_ ?_
 ·cases lo with
  | none=>rfl
  | some v=>exact AI v n 0
 ·cases hi with
  | none=>rfl
  | some v=>exact AI v n n
theorem zr (i j:Nat):Builtin.Slice.slicePlaces (i:Int) (j:Int) 1=j-i:=by
 unfold Builtin.Slice.slicePlaces
 have h1:(1:Int)>0:=by omega
 simp only[h1,if_true,Int.ediv_one]
 split<;>omega
theorem rL {v:Value}{o:Option Int}{Q:Option Int->Shared->Prop}(p:IsPart v o)(h:Q o s):wpAny (model prog w) A (Builtin.Slice.slicePartIndex v) Q E s:=by
 cases p with
 | none=>exact slicePart_none h
 | int i t=>exact slicePart_int h
theorem oX {sl:Addr}{vl vu:Value}{lo hi:Option Int}{n:Nat}{Q:Int×Int×Nat->Shared->Prop}(hs:s.heap.IsSliceOf sl vl vu .none)(pl:IsPart vl lo)(pu:IsPart vu hi)
  (h:Q (((sIx n 0 lo:Nat):Int),1,sIx n n hi-sIx n 0 lo) s):wpAny (model prog w) A (Builtin.Slice.sliceApplied (.ref sl) (pure (n:Int))) Q E s:=by
 obtain⟨os,hos,hcs,hds⟩:=id hs
 unfold Builtin.Slice.sliceApplied Builtin.Slice.sliceFields
 refine av (av (wpAny_field hos hds (x:=vl) rfl (av (wpAny_field hos hds (x:=vu) rfl (av (wpAny_field hos hds (x:=.none) rfl (aw ?_)))))))
 refine av (slicePart_none ?_)
 show wpAny _ _ (if ((1:Int)==0)=true then _ else _) _ _ s
 rw[af (by decide)]
 refine av (rL pl (av (rL pu (av (aw ?_)))))
 show wpAny _ _ (match Builtin.Slice.sliceAdjust lo hi 1 (n:Int) with | (lo,hi)=>pure (lo,(1:Int),Builtin.Slice.slicePlaces lo hi 1)) _ _ s
 rw[zq lo hi n]
 show wpAny _ _ (pure (((sIx n 0 lo:Nat):Int),(1:Int),Builtin.Slice.slicePlaces ((sIx n 0 lo:Nat):Int) ((sIx n n hi:Nat):Int) 1)) _ _ s
 rw[zr]
 exact aw h
theorem Dq (xs:Array Value)(i k:Nat):((List.range k).filterMap λ(m:Nat)=>xs[((i:Int)+(m:Int)*1).toNat]?).toArray=((xs.toList.drop i).take k).toArray:=by
 have e:(λ(m:Nat)=>xs[((i:Int)+(m:Int)*1).toNat]?)=λ m=>xs[i+m]?:=by
  funext m
  have:((i:Int)+(m:Int)*1).toNat=i+m:=by omega
  rw[this]
 rw[e]
 have:=pick_run xs i k
 rw[List.filterMap_map]at this
 have e2:((λ x=>xs[x]?)∘λ x=>i+x)=λ m=>xs[i+m]?:=rfl
 rw[e2]at this
 rw[this]
theorem m_ {t sl:Addr}{items:Array Value}{vl vu:Value}{lo hi:Option Int}{Q:Value->Shared->Prop}(ht:IsTup s.heap t items)(hs:s.heap.IsSliceOf sl vl vu .none)(pl:IsPart vl lo)(pu:IsPart vu hi)
  (hw:¬ (sIx items.size 0 lo=0/\sIx items.size items.size hi=items.size))
  (h:Q (.ref s.heap.objs.size) {s with heap:=s.heap.push {cls:=.type "tuple",data:=.seq ((items.toList.drop (sIx items.size 0 lo)).take (sIx items.size items.size hi-sIx items.size 0 lo)).toArray}})
  (hsz:items.size<=sizeLine):wpAny (model prog w) A (getItem (.ref t) (.ref sl)) Q E s:=by
 have htake:sizeOk (.seq ((items.toList.drop (sIx items.size 0 lo)).take (sIx items.size items.size hi-sIx items.size 0 lo)).toArray):=by
  show((items.toList.drop (sIx items.size 0 lo)).take (sIx items.size items.size hi-sIx items.size 0 lo)).toArray.size<=sizeLine
  rw[ax,List.length_take,List.length_drop,Array.length_toList]
  omega (config:={})
 have hj:sIx items.size items.size hi<=items.size:=II _ _ (ag _) hi
 obtain⟨os,hos,hcs,hds⟩:=id hs
 have hTs:s.TypeIs (.ref sl) "slice":=⟨os,hos,hcs⟩
 unfold getItem
 try with_reducible refine wpAny_holding ?_
 first | refine av (aw ?_) | skip
 refine av (wpAny_sequenceKey ht.typeIs (by decide) ?_)
 refine av (wpAny_callSpecial?_slot (name:=Str.ofString "__getitem__") ht.typeIs PyProof.Rows.slot_tuple_getitem
  (wpAny_call_entry PyProof.Rows.slot_tuple_getitem ht.typeIs entry_tuple_getitem ?_ (args_tuple_getitem _ _)))
 show wpAny _ _ (Builtin.Tuple.tupleItemsOf (.ref t)>>=_) _ _ s
 refine av (tupleItemsOf_ ht ?_)
 refine av (wpAny_typeOf hTs ?_)
 rw[ae (by decide)]
 refine av (oX hs pl pu ?_)
 have hno:¬ ((((sIx items.size 0 lo:Nat):Int)==0&&(1:Int)==1&&(sIx items.size items.size hi-sIx items.size 0 lo)==items.size)=true):=by
  intro q
  rw[Bool.and_eq_true,Bool.and_eq_true]at q
  have q1:((sIx items.size 0 lo:Nat):Int)=0:=eq_of_beq q.1.1
  have q2:sIx items.size items.size hi-sIx items.size 0 lo=items.size:=eq_of_beq q.2
  exact hw ⟨by omega (config:={}),by omega (config:={})⟩
 show wpAny _ _ (if (((sIx items.size 0 lo:Nat):Int)==0&&(1:Int)==1&&(sIx items.size items.size hi-sIx items.size 0 lo)==items.size)=true then _ else _) _ _ s
 rw[af hno,Dq]
 first
  | exact av (m:=Builtin.Tuple.tupleExact _) (wpAny_newObj_type (aw ⟨_,rfl,aw h⟩) htake)
  | exact av (m:=Builtin.Tuple.tupleExact _) (wpAny_newObj_type (av (aw (aw ⟨_,rfl,aw h⟩))) htake)
  | exact av (av (m:=Builtin.Tuple.tupleExact _) (wpAny_newObj_type (aw (aw ⟨_,rfl,aw h⟩)) htake))
  | exact av (av (m:=Builtin.Tuple.tupleExact _) (wpAny_newObj_type (aw ⟨_,rfl,aw h⟩) htake))
end
end HT
namespace L2
open PySem PySem.Spec PyProof.Rows
noncomputable abbrev TO:=St->Hp->(Option Int->Hp->Prop)->Prop
noncomputable def PO (X:Cx)(e:Option Expr)(t:TO):Prop :=
 ∀ (pins:List (Addr×Obj)) (s:Shared) (σ:St) (H:Hp) (Q:Option Int->Hp->Prop),Inv X pins σ H s->t σ H Q ->
  wpAny (model X.prog X.w) X.A (evalPart e X.env) (λ u s'=>∃ o H',Inv X pins σ H' s'/\IsPart u o/\Q o H') X.xe s
noncomputable def FT:TO:=λ _ H Q=>Q none H
noncomputable def KH (t:TE):TO:=λ σ H Q=>t σ H λ x H1=>∃ i,x=.int i/\Q (some i) H1
theorem intsAre_of {ns:List Int}:∀ {us:List Value},Vals (ns.map V.int) us->IntsAre us ns:=by
 induction ns with
 | nil=>intro us r;rw[List.map_nil]at r;cases r;exact .nil
 | cons n ns ih =>
  intro us r
  rw[List.map_cons]at r
  cases r with
  | cons r1 r2 =>
   obtain⟨t,e⟩:=r1
   subst e
   exact .cons n t (ih r2)
section
variable {X:Cx}{e:Expr}{te:TE}{lo hi:Option Expr}{tl th:TO}{pos p2:Pos}
theorem FU:PO X none FT:=by
 intro pins s σ H Q I h
 rw[evalPart_none]
 exact aw ⟨none,H,I,.none,h⟩
theorem FV (h:PE X e te):PO X (some e) (KH te):=by
 intro pins s σ H Q I hw
 rw[evalPart_some]
 refine thn (h pins s σ H _ I hw) λ u s1 ⟨x,H1,I1,r1,q1⟩=>?_
 obtain⟨i,rfl,q⟩:=q1
 obtain⟨t,rfl⟩:=r1
 exact⟨some i,H1,I1,.int i t,q⟩
noncomputable def SlR (X:Cx)(r:V->Option Int->Option Int->Hp->VK->Prop):Prop :=
 ∀ (pins:List (Addr×Obj)) (s:Shared) (σ:St) (H:Hp) (x:V) (v vl vu:Value) (lo hi:Option Int) (sl:Addr) (Q:VK),Inv X pins σ H s->RelV x v->s.heap.IsSliceOf sl vl vu .none->IsPart vl lo->IsPart vu hi->r x lo hi H Q ->
  ∃ T id,typeLookup (.type T) "__getitem__"=pure (some (.builtin id))/\s.TypeIs v T/\wpAny (model X.prog X.w) X.A (getItem v (.ref sl)) (EP X pins σ Q) X.xe s
theorem SlR.or {r r':V->Option Int->Option Int->Hp->VK->Prop}(h:SlR X r)(h':SlR X r'):SlR X (λ x lo hi H Q=>r x lo hi H Q\/r' x lo hi H Q):=by
 intro pins s σ H x v vl vu lo hi sl Q I rx hs pl pu q
 rcases q with q | q
 ·exact h pins s σ H x v vl vu lo hi sl Q I rx hs pl pu q
 ·exact h' pins s σ H x v vl vu lo hi sl Q I rx hs pl pu q
noncomputable def tSl (r:V->Option Int->Option Int->Hp->VK->Prop)(te:TE)(tl th:TO):TE:=λ σ H Q=>te σ H λ x H1=>tl σ H1 λ l H2=>th σ H2 λ u H3=>r x l u H3 Q
theorem Ds {r:V->Option Int->Option Int->Hp->VK->Prop}(hr:SlR X r)(he:PE X e te)(hl:PO X lo tl)(hu:PO X hi th):PE X (.Subscript e (.Slice lo hi none p2) pos) (tSl r te tl th):=by
 intro pins s σ H Q I h
 refine Subscript_ (thn (he pins s σ H _ I h) λ v s1 ⟨x,H1,I1,r1,q1⟩=>?_)
 refine wpAny_Slice (thn (hl pins s1 σ H1 _ I1 q1) λ vl s2 ⟨l,H2,I2,pl,q2⟩=>thn (hu pins s2 σ H2 _ I2 q2) λ vu s3 ⟨u,H3,I3,pu,q3⟩=>?_)
 rw[evalPart_none]
 refine aw ?_
 have I4:Inv X pins σ H3 {s3 with heap:=s3.heap.push {cls:=.type "slice",data:=.fields #[vl,vu,.none]}}:=I3.kept (t':=s3.toks) λ b ob q=>aC _ q
 obtain⟨T,id,hT,ht,hg⟩:=hr pins {s3 with heap:=s3.heap.push {cls:=.type "slice",data:=.fields #[vl,vu,.none]}} σ H3 x v vl vu l u s3.heap.objs.size Q I4 r1 (Heap.IsSliceOf.new ..) pl pu q3
 show wpAny (model X.prog X.w) X.A (subscriptTail e (.Slice lo hi none p2) v (.ref s3.heap.objs.size)) (EP X pins σ Q) X.xe {s3 with heap:=s3.heap.push {cls:=.type "slice",data:=.fields #[vl,vu,.none]}}
 exact tail_any (ops:=[.ref s3.heap.objs.size,v]) ht hT hg (by with_unfolding_all rfl)
noncomputable def xi (xs:List V)(lo hi:Option Int):List V:=(xs.drop (HT.sIx xs.length 0 lo)).take (HT.sIx xs.length xs.length hi-HT.sIx xs.length 0 lo)
theorem p_ (xs:List V)(lo hi:Option Int):(xi xs lo hi).length<=xs.length:=by
 unfold xi
 rw[List.length_take,List.length_drop]
 omega
noncomputable def MA (K:PySem.W.Frag):V->Option Int->Option Int->Hp->VK->Prop:=λ x lo hi H Q=>∃ a xs,x=.ref a/\SqT K H a xs /\
 ¬ (HT.sIx xs.length 0 lo=0/\HT.sIx xs.length xs.length hi=xs.length)/\∀ p,H p=none->Q (.ref p) (upd H p (.tup (xi xs lo hi)))
theorem IJ:SlR X (MA X.K):=by
 intro pins s σ H x v vl vu lo hi sl Q I rx hs pl pu h
 obtain⟨a,xs,rfl,hx,hw,q⟩:=h
 cases rx
 obtain⟨its,r,ht,hz⟩:=I.tuple hx
 have hlen:its.toArray.size=xs.length:=by rw[ax];exact r.length.symm
 refine⟨"tuple",_,PyProof.Rows.slot_tuple_getitem.lookup,ht.typeIs,?_⟩
 refine HT.m_ ht hs pl pu (by rw[hlen];exact hw) ?_ (by rw[hlen];exact hz)
 rw[hlen]
 refine⟨.ref s.heap.objs.size,_,I.laid (t':=s.toks) (o:=.tup (xi xs lo hi)) (λ b ob q=>aC _ q) (ag _) ?_,rfl,q _ (I.hok.fresh (ag _))⟩
 exact⟨Nat.le_trans (p_ xs lo hi) hz,_,(r.drop (HT.sIx xs.length 0 lo)).take (HT.sIx xs.length xs.length hi-HT.sIx xs.length 0 lo),IsTup.new _ _⟩
noncomputable def MB (K:PySem.W.Frag):R2:=λ x y H Q=>∃ a b ns ms,x=.ref a/\y=.ref b/\SqT K H a (ns.map V.int)/\SqT K H b (ms.map V.int)/\Q (.bl (HT.lexLt ns ms)) H
theorem IK (hu:X.A.units<cLine):OpR X (compareOp .Lt) (MB X.K):=by
 intro pins s σ H x y v u Q I rx ry h
 obtain⟨a,b,ns,ms,rfl,rfl,ha,hb,q⟩:=h
 cases rx
 cases ry
 obtain⟨its,r1,p1,_⟩:=I.tuple ha
 obtain⟨its2,r2,p2,_⟩:=I.tuple hb
 have i1:IntsAre its.toArray.toList ns:=intsAre_of r1
 have i2:IntsAre its2.toArray.toList ms:=intsAre_of r2
 exact HT.rK p1 p2 i1 i2 hu ⟨.bl (HT.lexLt ns ms),H,I,rfl,q⟩
end
noncomputable def ixN (n:Nat)(i:Int):Option Nat:=if 0<=i then (if i<n then some i.toNat else none) else if -(n:Int)<=i then some (i+n).toNat else none
noncomputable def atI {α:Type}(xs:List α)(i:Int):Option α:=(ixN xs.length i).bind λ j=>xs[j]?
theorem AJ {n:Nat}{i:Int}{j:Nat}(h:ixN n i=some j):seqIndex? i n=some j/\j<n/\-(n:Int)<=i/\i<n:=by
 unfold ixN at h
 by_cases h0:0<=i
 ·rw[ae h0]at h
  by_cases h1:i<n
  ·rw[ae h1]at h
   have e:i.toNat=j:=ao h
   exact⟨by rw[seqIndex_of h0 h1,e],by omega,by omega,h1⟩
  ·rw[af h1]at h;cases h
 ·rw[af h0]at h
  by_cases h1:-(n:Int)<=i
  ·rw[ae h1]at h
   have e:(i+n).toNat=j:=ao h
   exact⟨by rw[seqIndex_neg (by omega) h1,e],by omega,h1,by omega⟩
  ·rw[af h1]at h;cases h
theorem AK {α:Type}{xs:List α}{i:Int}{v:α}(h:atI xs i=some v):∃ j,seqIndex? i xs.length=some j/\xs[j]?=some v/\j<xs.length/\-(xs.length:Int)<=i/\i<xs.length:=by
 unfold atI at h
 cases e:ixN xs.length i with
 | none=>rw[e]at h;cases h
 | some j =>
  rw[e]at h
  obtain⟨h1,h2,h3,h4⟩:=AJ e
  exact⟨j,h1,h,h2,h3,h4⟩
theorem iY {α:Type}{xs:List α}{j:Nat}{v:α}(h:xs[j]?=some v):atI xs (j:Int)=some v:=by
 have hj:j<xs.length:=(List.getElem?_eq_some_iff.mp h).1
 have e:ixN xs.length (j:Int)=some j:=by
  unfold ixN
  rw[ae (by omega),ae (by omega)];simp
 unfold atI;rw[e];exact h
theorem Du {α:Type}(xs:List α)(v:α):atI (xs++[v]) (-1)=some v:=by
 have hl:(xs++[v]).length=xs.length+1:=by simp
 have e:ixN (xs++[v]).length (-1)=some xs.length:=by
  unfold ixN
  rw[hl,af (by decide),ae (by omega)]
  congr 1
  omega
 unfold atI
 rw[e]
 show(xs++[v])[xs.length]?=some v
 simp
noncomputable def AL (b:Expr):Prop:=∀ o i,subscripted b false o i=operate [o,i] (getItem o i)
noncomputable def IxR (X:Cx)(r:R2):Prop :=
 ∀ (value slice:Expr) (pins:List (Addr×Obj)) (s:Shared) (σ:St) (H:Hp) (x y:V) (v u:Value) (Q:VK),Inv X pins σ H s->RelV x v->RelV y u->r x y H Q ->
  subscripted slice false v u=operate [v,u] (getItem v u)->wpAny (model X.prog X.w) X.A (subscriptTail value slice v u) (EP X pins σ Q) X.xe s
noncomputable def MtR (X:Cx)(id:String)(r:V->List V->Hp->VK->Prop):Prop :=
 ∀ (pins:List (Addr×Obj)) (s:Shared) (σ:St) (H:Hp) (x:V) (xs:List V) (v:Value) (us:List Value) (Q:VK),Inv X pins σ H s->RelV x v->Vals xs us->r x xs H Q ->
  wpAny (model X.prog X.w) X.A (call (.builtin id) (v::us)) (EP X pins σ Q) X.xe s
section
variable {X:Cx}{a b:Expr}{ta tb:TE}{pos:Pos}
theorem IxR.or {r r':R2}(h:IxR X r)(h':IxR X r'):IxR X (λ x y H Q=>r x y H Q\/r' x y H Q):=by
 intro value slice pins s σ H x y v u Q I rx ry q hs
 rcases q with q | q
 ·exact h value slice pins s σ H x y v u Q I rx ry q hs
 ·exact h' value slice pins s σ H x y v u Q I rx ry q hs
theorem MtR.or {id:String}{r r':V->List V->Hp->VK->Prop}(h:MtR X id r)(h':MtR X id r'):MtR X id (λ x xs H Q=>r x xs H Q\/r' x xs H Q):=by
 intro pins s σ H x xs v us Q I rx rs q
 rcases q with q | q
 ·exact h pins s σ H x xs v us Q I rx rs q
 ·exact h' pins s σ H x xs v us Q I rx rs q
theorem iF {r:R2}(hr:IxR X r)(ha:PE X a ta)(hb:PE X b tb)(hs:AL b):PE X (.Subscript a b pos) (tOp r ta tb):=by
 intro pins s σ H Q I h
 exact Subscript_ (IA ha hb I h λ v u s2 x y H2 I2 rx ry q=>hr a b pins s2 σ H2 x y v u Q I2 rx ry q (hs _ _))
noncomputable def rM (K:PySem.W.Frag):R2:=λ x y H Q=>∃ p xs i v,x=.ref p/\y=.int i/\SqL K H p xs/\atI xs i=some v/\Q v H
noncomputable def KJ (K:PySem.W.Frag):R2:=λ x y H Q=>∃ p xs i v,x=.ref p/\y=.int i/\SqT K H p xs/\atI xs i=some v/\Q v H
theorem gu:IxR X (rM X.K):=by
 intro value slice pins s σ H x y v u Q I rx ry h hs
 obtain⟨p,xs,i,z,rfl,rfl,hq,he,q⟩:=h
 cases rx
 obtain⟨t,rfl⟩:=ry
 obtain⟨its,r,pl,hz⟩:=I.list hq
 obtain⟨j,h1,h2,h3,h4,h5⟩:=AK he
 obtain⟨w,ew,rw'⟩:=r.get h2
 have hl:=r.length
 have hn:=oT
 have fin:EP X pins σ Q w s:=⟨z,H,I,rw',q⟩
 by_cases h0:0<=i
 ·have hj:i.toNat=j:=by
   rw[seqIndex_of h0 h5]at h1
   exact ao h1
  exact item_listR pl.isList h0 (by omega) (by rw[hj];simpa using ew) fin hs
 ·have hj:(i+(its.toArray.size:Int)).toNat=j:=by
   rw[seqIndex_neg (by omega) h4]at h1
   rw[ax,<-hl]
   exact ao h1
  exact subscriptTail_builtinR (x:=w) pl.isList.typeIs slot_list_getitem.lookup
   (wpAny_getItem_list_neg (Q:=λ r s'=>r=w/\EP X pins σ Q r s') pl.isList (by omega) (by rw[ax]<;>omega) (by omega) (by rw[hj];simpa using ew) ⟨rfl,fin⟩) hs
theorem oY:IxR X (KJ X.K):=by
 intro value slice pins s σ H x y v u Q I rx ry h hs
 obtain⟨p,xs,i,z,rfl,rfl,hq,he,q⟩:=h
 cases rx
 obtain⟨t,rfl⟩:=ry
 obtain⟨its,r,pl,hz⟩:=I.tuple hq
 obtain⟨j,h1,h2,h3,h4,h5⟩:=AK he
 obtain⟨w,ew,rw'⟩:=r.get h2
 have hl:=r.length
 have hn:=oT
 have fin:EP X pins σ Q w s:=⟨z,H,I,rw',q⟩
 exact subscriptTail_builtinR (x:=w) pl.typeIs slot_tuple_getitem.lookup
  (getItem_tuple (j:=j) (Q:=λ r s'=>r=w/\EP X pins σ Q r s') pl (by omega) (by omega) (by rw[ax,<-hl];exact h1) (by simpa using ew) ⟨rfl,fin⟩) hs
theorem zt (its:List Value)(n j:Nat)(u:Value):Obj.mapSeq (·.setIfInBounds j u) {cls:=.type "list",data:=.seq its.toArray n}={cls:=.type "list",data:=.seq (its.set j u).toArray n}:=by
 simp[Obj.mapSeq]
theorem Inv.lst {pins:List (Addr×Obj)}{σ:St}{H:Hp}{s:Shared}{p:Addr}{xs:List V}(I:Inv X pins σ H s)(h:H p=some (.lst xs)) :
  ∃ (its:List Value) (n:Nat),Vals xs its/\s.heap.get? p=some {cls:=.type "list",data:=.seq its.toArray n}/\xs.length<=sizeLine:=by
 obtain⟨z,its,n,r,e⟩:=I.hok p _ h
 exact⟨its,n,r,e,z⟩
theorem Inv.IL {pins:List (Addr×Obj)}{σ:St}{H:Hp}{s:Shared}{p:Addr}{xs ys:List V}{its its':List Value}{n n':Nat}{f:Obj->Obj}(I:Inv X pins σ H s)(h:H p=some (.lst xs))
  (ho:s.heap.get? p=some {cls:=.type "list",data:=.seq its.toArray n}) (hf:f {cls:=.type "list",data:=.seq its.toArray n}={cls:=.type "list",data:=.seq its'.toArray n'}) (r:Vals ys its') (hz:ys.length<=sizeLine) (t:Nat) :
  Inv X pins σ (upd H p (.lst ys)) {s with heap:=s.heap.update p f,toks:=t}:=by
 have e:(s.heap.update p f).get? p=some {cls:=.type "list",data:=.seq its'.toArray n'}:=by
  rw[Heap.get?_update_self f ho (by rw[hf]<;>rfl),hf]
 refine I.write (x:=p) (e:=p) (by rw[h];trivial) (.inl rfl) (λ b u hb q=>(Heap.get?_update_other _ _ (Ne.symm hb)).trans q) ⟨_,e⟩ ?_
 exact⟨hz,its',n',r,e⟩
noncomputable def AM:V->V->V->Hp->(Hp->Prop)->Prop:=λ o i v H Q=>∃ p xs k j,o=.ref p/\i=.int k/\H p=some (.lst xs)/\ixN xs.length k=some j/\Q (upd H p (.lst (xs.set j v)))
theorem set_list:Ky X AM:=by
 intro pins s σ H o i v ov iv u Q I ro ri rv h
 obtain⟨p,xs,k,j,rfl,rfl,hp,hj,q⟩:=h
 cases ro
 obtain⟨t,rfl⟩:=ri
 obtain⟨its,n,r,ho,hz⟩:=I.lst hp
 obtain⟨h1,h2,h3,h4⟩:=AJ hj
 have hl:=r.length
 have hn:=oT
 have I':Inv X pins σ (upd H p (.lst (xs.set j v))) {s with heap:=s.heap.update p (Obj.mapSeq (·.setIfInBounds j u))} :=
  I.IL hp ho (zt its n j u) (r.set rv j) (by rw[List.length_set];exact hz) s.toks
 by_cases h0:0<=k
 ·have hk:k.toNat=j:=by
   rw[seqIndex_of h0 h4]at h1
   exact ao h1
  exact PySem.W.ki_setAt ho h0 (by omega) (by rw[ax,<-hl];exact h4) (by rw[hk];exact⟨_,I',q⟩)
 ·have hk:(k+(its.toArray.size:Int)).toNat=j:=by
   rw[seqIndex_neg (by omega) h3]at h1
   rw[ax,<-hl]
   exact ao h1
  exact PySem.W.ki_setBack ho (by omega) (by rw[ax,<-hl];exact h3) (by omega) (by rw[hk];exact⟨_,I',q⟩)
theorem vi (lo hi:Option Int)(n:Nat):(sliceBounds lo hi none n).1=((HT.sIx n 0 lo:Nat):Int)/\(sliceBounds lo hi none n).2.1=((HT.sIx n n hi:Nat):Int)/\(sliceBounds lo hi none n).2.2=1:=by
 refine⟨?_,?_,rfl⟩
 ·cases lo with
  | none=>simp[sliceBounds,HT.sIx]
  | some i =>
   simp only[sliceBounds,HT.sIx,Option.getD_none,show(1:Int)>0 by decide,if_true]
   by_cases h:i<0
   ·simp only[h,if_true]<;>omega
   ·simp only[h,if_false]<;>omega
 ·cases hi with
  | none=>simp[sliceBounds,HT.sIx]
  | some i =>
   simp only[sliceBounds,HT.sIx,Option.getD_none,show(1:Int)>0 by decide,if_true]
   by_cases h:i<0
   ·simp only[h,if_true]<;>omega
   ·simp only[h,if_false]<;>omega
theorem tT (its:List Value)(lo hi:Option Int):slicePick its.toArray lo hi none=((its.drop (HT.sIx its.length 0 lo)).take (HT.sIx its.length its.length hi-HT.sIx its.length 0 lo)).toArray:=by
 obtain⟨h1,h2,h3⟩:=vi lo hi its.toArray.size
 unfold slicePick
 rw[h1,h2,h3]
 simp only[sliceRange_one,pick_run,ax]<;>rfl
noncomputable def MC (K:PySem.W.Frag):V->Option Int->Option Int->Hp->VK->Prop:=λ x lo hi H Q=>∃ a xs,x=.ref a/\SqL K H a xs/\∀ p,H p=none->Q (.ref p) (upd H p (.lst (xi xs lo hi)))
theorem L_:SlR X (MC X.K):=by
 intro pins s σ H x v vl vu lo hi sl Q I rx hs pl pu h
 obtain⟨a,xs,rfl,hx,q⟩:=h
 cases rx
 obtain⟨its,r,ht,hz⟩:=I.list hx
 have hlen:=r.length
 refine⟨"list",_,slot_list_getitem.lookup,ht.isList.typeIs,?_⟩
 refine wpAny_getItem_list_slice ht.isList hs pl pu .none (by simp) ?_ (by rw[ax]<;>omega)
 rw[tT,<-hlen]
 refine⟨.ref s.heap.objs.size,_,I.laid (t':=s.toks) (o:=.lst (xi xs lo hi)) (λ b ob q=>aC _ q) (ag _) ?_,rfl,q _ (I.hok.fresh (ag _))⟩
 exact⟨Nat.le_trans (p_ xs lo hi) hz,_,0,(r.drop (HT.sIx xs.length 0 lo)).take (HT.sIx xs.length xs.length hi-HT.sIx xs.length 0 lo),aG _ rfl⟩
theorem hE:cG X (.builtin "len") (λ xs H Q=>∃ p ys,xs=[.ref p]/\(SqL X.K H p ys\/SqT X.K H p ys)/\Q (.int ys.length) H):=by
 intro pins s σ H xs us Q I r h
 obtain⟨p,ys,rfl,hq,q⟩:=h
 obtain⟨u,rfl,rx⟩:=vals1 r
 cases rx
 have hn:=oT
 rcases hq with hq | hq
 ·obtain⟨its,r',pl,hz⟩:=I.list hq
  have hlen:=r'.length
  exact Calls.call_len_list pl.isList (by simp only[ax]<;>omega) ⟨.int ys.length,H,I.tok _,⟨s.toks+1,by rw[ax,hlen]⟩,q⟩
 ·obtain⟨its,r',pl,hz⟩:=I.tuple hq
  have hlen:=r'.length
  exact len_tuple pl (by simp only[ax]<;>omega) ⟨.int ys.length,H,I.tok _,⟨s.toks+1,by rw[ax,hlen]⟩,q⟩
theorem cG.or {f:Value}{r r':List V->Hp->VK->Prop}(h:cG X f r)(h':cG X f r'):cG X f (λ xs H Q=>r xs H Q\/r' xs H Q):=by
 intro pins s σ H xs us Q I rs q
 rcases q with q | q
 ·exact h pins s σ H xs us Q I rs q
 ·exact h' pins s σ H xs us Q I rs q
theorem vj:cG X (.type "list") (λ xs H Q=>∃ p ys,xs=[.ref p]/\(SqL X.K H p ys\/SqT X.K H p ys)/\∀ l,H l=none->Q (.ref l) (upd H l (.lst ys))):=by
 intro pins s σ H xs us Q I r h
 obtain⟨p,ys,rfl,hq,q⟩:=h
 obtain⟨u,rfl,rx⟩:=vals1 r
 cases rx
 have fin:∀ (its:List Value),Vals ys its->ys.length<=sizeLine->∀ (h':Heap) (c':Nat),(∀ b o',s.heap.get? b=some o'->h'.get? b=some o') ->
   h'.get? s.heap.objs.size=some {cls:=.type "list",dict:=none,data:=.seq its.toArray c',slots:=#[]}->EP X pins σ Q (.ref s.heap.objs.size) {s with heap:=h'}:=λ its r' hz h' c' kp e =>
  ⟨.ref s.heap.objs.size,_,I.laid (t':=s.toks) kp (ag _) (show cE X.prog X.w _ h' _ (.lst ys) from ⟨hz,its,c',r',e⟩),rfl,q _ (I.hok.fresh (ag _))⟩
 rcases hq with hq | hq
 ·obtain⟨its,r',pl,hz⟩:=I.list hq
  have hlen:=r'.length
  obtain⟨o,ho,hc,n,hd⟩:=pl.isList
  exact call_list_seq p (.inl rfl) ho hc hd (λ h' c' kp e=>fin its r' hz h' c' kp e) (by simp only[ax]<;>omega)
 ·obtain⟨its,r',pl,hz⟩:=I.tuple hq
  have hlen:=r'.length
  obtain⟨o,ho,hc,n,hd⟩:=pl
  exact call_list_seq p (.inr rfl) ho hc hd (λ h' c' kp e=>fin its r' hz h' c' kp e) (by simp only[ax]<;>omega)
theorem mv:cG X (.type "tuple") (λ xs H Q=>∃ p ys,xs=[.ref p]/\((SqL X.K H p ys/\∀ l,H l=none->Q (.ref l) (upd H l (.tup ys)))\/(SqT X.K H p ys/\Q (.ref p) H))):=by
 intro pins s σ H xs us Q I r h
 obtain⟨p,ys,rfl,h⟩:=h
 obtain⟨u,rfl,rx⟩:=vals1 r
 cases rx
 rcases h with⟨hq,q⟩ | ⟨hq,q⟩
 ·obtain⟨its,r',pl,hz⟩:=I.list hq
  have hlen:=r'.length
  refine call_tuple_list pl.isList (λ h' kp=>?_) (by simp only[ax]<;>omega)
  have I1:Inv X pins σ H {s with heap:=h'}:=I.kept (t':=s.toks) kp
  have I2:Inv X pins σ (upd H h'.objs.size (.tup ys)) {s with heap:=h'.push {cls:=.type "tuple",data:=.seq its.toArray}} :=
   I1.laid (t':=s.toks) (λ b o e=>aC _ e) (ag _) (show cE X.prog X.w _ _ _ (.tup ys) from ⟨hz,its,r',IsTup.new _ _⟩)
  exact⟨.ref h'.objs.size,_,I2,rfl,q _ (I1.hok.fresh (ag _))⟩
 ·obtain⟨its,r',pl,hz⟩:=I.tuple hq
  exact call_tuple_same pl ⟨.ref p,H,I,rfl,q⟩
noncomputable def tyV (K:PySem.W.Frag)(T:String)(x:V)(H:Hp):Prop:=match x with
 | .str _=>T="str"
 | .int _=>T="int"
 | .ref p=>(T="list"/\∃ xs,SqL K H p xs)\/(T="tuple"/\∃ o,K.lookup p=some o/\o.cls=.type "tuple"/\o.dict=none) \/
   (T="dict"/\((∃ kvs,H p=some (.dK kvs))\/∃ kvs,H p=some (.dT kvs)))\/(T="set"/\∃ S n,H p=some (.set S n))
 | _=>False
theorem IM {pins:List (Addr×Obj)}{σ:St}{H:Hp}{s:Shared}{T:String}{x:V}{v:Value}(I:Inv X pins σ H s)(r:RelV x v)(ty:tyV X.K T x H) :
  s.TypeIs v T/\∀ a,v=.ref a->∃ ob,s.heap.get? a=some ob/\ob.dict=none:=by
 cases x with
 | str z =>
  obtain⟨t,rfl⟩:=r
  cases (show T="str" from ty)
  exact⟨typeIs_str s z t,λ _ e=>nomatch e⟩
 | int i =>
  obtain⟨t,rfl⟩:=r
  cases (show T="int" from ty)
  exact⟨typeIs_int s i t,λ _ e=>nomatch e⟩
 | ref p =>
  cases r
  rcases ty with⟨rfl,xs,hq⟩ | ⟨rfl,o,hk,hc,hd⟩ | ⟨rfl,hk⟩ | ⟨rfl,S,n,hk⟩
  ·obtain⟨its,_,pl,_⟩:=I.list hq
   refine⟨pl.isList.typeIs,λ a e=>?_⟩
   cases e
   obtain⟨o,n,e,c,hd,_⟩:=pl
   exact⟨o,e,hd⟩
  ·refine⟨⟨o,I.kIn p o hk,hc⟩,λ a e=>?_⟩
   cases e
   exact⟨o,I.kIn _ o hk,hd⟩
  ·have z:∃ o,s.heap.get? p=some o/\o.ExactDict:=by
    rcases hk with⟨kvs,hk⟩ | ⟨kvs,hk⟩
    ·obtain⟨_,_,_,_,o,_,_,e,ex,_⟩:=I.hok p _ hk
     exact⟨o,e,ex⟩
    ·obtain⟨_,_,_,_,o,_,_,e,ex,_⟩:=I.hok p _ hk
     exact⟨o,e,ex⟩
   obtain⟨o,e,ex⟩:=z
   refine⟨⟨o,e,ex.1⟩,λ a e2=>?_⟩
   cases e2
   exact⟨o,e,ex.2.1⟩
  ·obtain⟨o,_,_,_,e,ex,_⟩:=I.hok p _ hk
   refine⟨⟨o,e,ex.1⟩,λ a e2=>?_⟩
   cases e2
   exact⟨o,e,ex.2.1⟩
 | _=>exact False.elim ty
noncomputable def tBM (K:PySem.W.Frag)(T:String)(r:V->List V->Hp->VK->Prop)(to:TE)(t:TA):TE:=λ σ H Q=>to σ H λ x H1=>tyV K T x H1/\t σ H1 λ xs H2=>r x xs H2 Q
variable {o e:Expr}{es:List Expr}{to:TE}{t:TA}{name:Str}{apos cpos:Pos}{T id:String}{r:V->List V->Hp->VK->Prop}
theorem AN (pa:PlainAttrs T)(slot:Slot T name id)(hty:typeOf (.builtin id)=pure (.type "method_descriptor"))(hm:MtR X id r)(ho:PE X o to)(ha:PA X (e::es) t)
  (hbase:attributeBase o name X.env (eval o X.env)=eval o X.env:=by rfl)
  (hfew:((backTo cpos (starEach (e::es) X.env)).all (λ x=>!x.1)&&(backToKw cpos (keywordEach [] X.env)).all (λ x=>x.1.isSome)
   && decide ((e::es).length+([]:List Keyword).length+(if ([]:List Keyword).isEmpty then 0 else 1)<30))=true:=by rfl)
  (hline:(apos.endLine==cpos.line)=true:=by rfl) (hs:starEach (e::es) X.env=(false,eval e X.env)::starEach es X.env:=by rfl) (hplain:(backTo cpos (starEach es X.env)).any (·.1)=false:=by rfl) :
  PE X (.Call (.Attribute o name apos) (e::es) [] cpos) (tBM X.K T r to t):=by
 intro pins s σ H Q I h
 refine wpAny_Call_method_late hbase hfew hline rfl (thn (ho pins s σ H _ I h) λ v s1 ⟨x,H1,I1,r1,ty,q1⟩=>?_)
 obtain⟨h1,h2⟩:=IM I1 r1 ty
 refine⟨T,id,pa,slot,hty,h1,h2,?_⟩
 have hA:=ha cpos pins s1 σ H1 _ I1 q1
 rw[hs]at hA ⊢
 refine Calls.callWith_builtin (by show(false || (backTo cpos (starEach es X.env)).any (·.1))=false;rw[hplain]<;>rfl) (Calls.evalArgs_plain ?_)
 exact thn hA λ us s2 ⟨vs,H2,I2,r2,q2⟩=>hm pins s2 σ H2 x vs v us Q I2 r1 r2 q2
end
noncomputable def MtM (X:Cx)(id:String)(r:V->List V->Hp->VK->Prop):Prop :=
 ∀ (pins:List (Addr×Obj)) (s:Shared) (σ:St) (H:Hp) (x:V) (xs:List V) (v:Value) (us:List Value) (Q:VK),Inv X pins σ H s->RelV x v->Vals xs us->r x xs H Q ->
  wpAny (model X.prog X.w) X.A (call (.builtin id) (v::us)) (EP X pins σ Q) X.xe s
theorem Vals.one:∀ {x:V} {us:List Value},Vals [x] us->∃ u,us=[u]/\RelV x u
 := by
 intro x us h
 cases h with
 | cons r q=>cases q;exact⟨_,rfl,r⟩
theorem Vals.two:∀ {x y:V} {us:List Value},Vals [x,y] us->∃ u v,us=[u,v]/\RelV x u/\RelV y v
 := by
 intro x y us h
 cases h with
 | cons r q =>
  obtain⟨u,e,z⟩:=Vals.one q;subst e
  exact⟨_,_,rfl,r,z⟩
theorem Vals.zero:∀ {us:List Value},Vals [] us->us=[]
 | _,.nil=>rfl
theorem Vals.eraseIdx:∀ {xs:List V} {us:List Value} (i:Nat),Vals xs us->Vals (xs.eraseIdx i) (us.eraseIdx i)
 | _,_,_,.nil=>.nil
 | _,_,0,.cons _ t=>t
 | _,_,i+1,.cons r t=>.cons r (Vals.eraseIdx i t)
theorem Vals.reverse {xs:List V}{us:List Value}(h:Vals xs us):Vals xs.reverse us.reverse:=by
 induction h with
 | nil=>exact .nil
 | cons r t ih=>rw[List.reverse_cons,List.reverse_cons];exact Vals.append ih (.cons r .nil)
theorem Vals.rep {xs:List V}{us:List Value}(h:Vals xs us):∀ k:Nat,Vals (List.replicate k xs).flatten (List.replicate k us).flatten
 | 0=>.nil
 | k+1=>by
  rw[List.replicate_succ,List.replicate_succ,List.flatten_cons,List.flatten_cons]
  exact Vals.append h (Vals.rep h k)
theorem uB {α:Type}:∀ (l:List α) (i:Nat),(l.eraseIdx i).length<=l.length
 | [],_=>ag _
 | _::_,0=>Nat.le_succ _
 | _::r,i+1=>Nat.succ_le_succ (uB r i)
theorem foldl_rep (its:List Value):∀ (k:Nat) (acc:List Value),
  List.foldl (λ x1 x2=>x1++x2) acc.toArray (List.replicate k its.toArray)=(acc++(List.replicate k its).flatten).toArray
 | 0,acc=>by simp
 | k+1,acc=>by
  have e:acc.toArray++its.toArray=(acc++its).toArray:=by simp
  have e2:(acc++its)++(List.replicate k its).flatten=acc++(List.replicate (k+1) its).flatten:=by
   rw[List.replicate_succ,List.flatten_cons,List.append_assoc]
  rw[<-e2,<-foldl_rep its k (acc++its),<-e,List.replicate_succ,List.foldl_cons]
section
variable {X:Cx}{pins:List (Addr×Obj)}{σ:St}{H:Hp}{s:Shared}{l b:Addr}{xs ys zs:List V}
theorem Inv.IP {its its':List Value}{n:Nat}{f:Array Value->Array Value}{t':Nat}(I:Inv X pins σ H s)(hH:H l=some (.lst xs))
  (e:s.heap.get? l=some {cls:=.type "list",data:=.seq its.toArray n}) (hf:f its.toArray=its'.toArray) (hv:Vals ys its') (hz:ys.length<=sizeLine) :
  Inv X pins σ (upd H l (.lst ys)) {s with heap:=s.heap.update l (Obj.mapSeq f),toks:=t'}:=by
 have q:=PySem.IsL.update e f
 rw[hf]at q
 refine I.write (x:=l) (e:=l) (by rw[hH];exact trivial) (.inl rfl) (λ b' u hb hu=>(Heap.get?_update_other s.heap (Obj.mapSeq f) (Ne.symm hb)).trans hu) ⟨_,q⟩ ?_
 exact⟨hz,its',_,hv,q⟩
theorem Inv.KL {its:List Value}{t':Nat}(I:Inv X pins σ H s)(hv:Vals ys its)(hz:ys.length<=sizeLine) :
  Inv X pins σ (upd H s.heap.objs.size (.lst ys)) {s with heap:=s.heap.push {cls:=.type "list",data:=.seq its.toArray},toks:=t'} :=
 I.laid (λ _ _ q=>aC _ q) (ag _) ⟨hz,its,0,hv,aG _ rfl⟩
theorem Inv.fresh (I:Inv X pins σ H s):H s.heap.objs.size=none:=I.hok.fresh (ag _)
theorem Inv.zu (I:Inv X pins σ H s)(hH:H l=some (.lst xs)):xs.length<=sizeLine/\∃ (its:List Value) (n:Nat),Vals xs its/\xs.length=its.length/\s.heap.get? l=some {cls:=.type "list",data:=.seq its.toArray n}:=by
 obtain⟨z,its,n,r,e⟩:=I.hok l _ hH
 exact⟨z,its,n,r,r.length,e⟩
theorem xj {n:Nat}(h:n<=sizeLine):Builtin.List.listTooLong n=false:=by
 unfold Builtin.List.listTooLong
 exact decide_eq_false (by omega)
end
section
variable {X:Cx}
noncomputable def qO:V->List V->Hp->VK->Prop:=λ x vs H Q=>∃ l xs y,x=.ref l/\vs=[y]/\H l=some (.lst xs)/\xs.length<sizeLine/\Q .non (upd H l (.lst (xs++[y])))
theorem oZ:MtM X "list.append" qO:=by
 intro pins s σ H x vs v us Q I rx rv h
 obtain⟨l,xs,y,rfl,rfl,hH,hz,q⟩:=h
 cases rx
 obtain⟨u,rfl,ru⟩:=rv.one
 obtain⟨z,its,n,r,hl,e⟩:=I.zu hH
 refine call_meets F.slot_list_append ⟨_,e,rfl⟩ F.entry_list_append (F.args_list_append_2 _ _) (PySem.list_append l its.toArray n u (by rw[ax];omega)) ⟨e,?_⟩
 refine⟨.non,_,I.IP (its':=its++[u]) hH e (by simp) (r.append (.cons ru .nil)) ?_,rfl,q⟩
 rw[List.length_append,List.length_singleton]
 omega
noncomputable def FW:V->List V->Hp->VK->Prop:=λ x vs H Q=>∃ l b xs zs,x=.ref l/\vs=[.ref b]/\H l=some (.lst xs)/\H b=some (.lst zs)/\xs.length+zs.length<=sizeLine/\Q .non (upd H l (.lst (xs++zs)))
theorem Kn:MtM X "list.extend" FW:=by
 intro pins s σ H x vs v us Q I rx rv h
 obtain⟨l,b,xs,zs,rfl,rfl,hH,hB,hz,q⟩:=h
 cases rx
 obtain⟨u,rfl,ru⟩:=rv.one
 cases ru
 obtain⟨z,its,n,r,hl,e⟩:=I.zu hH
 obtain⟨z2,its2,n2,r2,hl2,e2⟩:=I.zu hB
 have hsz:its.toArray.size+its2.toArray.size<=sizeLine:=by rw[ax,ax];omega
 have hlong:¬ (!its.toArray.isEmpty&&Builtin.List.listTooLong (its.toArray.size+its2.toArray.size))=true:=by
  rw[xj hsz,Bool.and_false]
  exact aq
 refine call_meets F.slot_list_extend ⟨_,e,rfl⟩ F.entry_list_extend (F.args_list_extend_2 _ _)
  (AutoSeq1.list_extend_list_list_0 l its.toArray n b its2.toArray n2 hlong (by rw[ax];omega) (by omega)) ⟨e,e2,?_⟩
 refine⟨.non,_,I.IP (its':=its++its2) hH e (by simp) (r.append r2) ?_,rfl,q⟩
 rw[List.length_append]
 omega
noncomputable def zv:V->List V->Hp->VK->Prop:=λ x vs H Q=>∃ l xs i k y,x=.ref l/\vs=[.int i]/\H l=some (.lst xs)/\-(2 ^ 63)<=i/\i<2 ^ 63/\seqIndex? i xs.length=some k/\xs[k]?=some y/\Q y (upd H l (.lst (xs.eraseIdx k)))
theorem Dv:MtM X "list.pop" zv:=by
 intro pins s σ H x vs v us Q I rx rv h
 obtain⟨l,xs,i,k,y,rfl,rfl,hH,h1,h2,hk,hy,q⟩:=h
 cases rx
 obtain⟨u,rfl,ru⟩:=rv.one
 obtain⟨t,rfl⟩:=ru
 obtain⟨z,its,n,r,hl,e⟩:=I.zu hH
 obtain⟨w,hw,rw'⟩:=r.get hy
 refine call_meets F.slot_list_pop ⟨_,e,rfl⟩ F.entry_list_pop (F.args_list_pop_2 _ _)
  (MeetsSeq.list_pop_at l its.toArray n i t k w (fitsIndex_both h1 h2) (by rw[ax,<-hl];exact hk) (by rw[<-Array.getElem?_toList];exact hw) (by rw[ax];omega)) ⟨e,?_⟩
 refine⟨y,_,I.IP (its':=its.eraseIdx k) hH e ?_ (r.eraseIdx k) ?_,rw',q⟩
 ·show its.toArray.eraseIdxIfInBounds k=(its.eraseIdx k).toArray
  rw[List.eraseIdxIfInBounds_toArray]
 ·have:=uB xs k
  omega
noncomputable def MD:R2:=λ x y H Q=>∃ l b xs zs,x=.ref l/\y=.ref b/\H l=some (.lst xs)/\H b=some (.lst zs)/\xs.length+zs.length<=sizeLine/\∀ p,H p=none->Q (.ref p) (upd H p (.lst (xs++zs)))
theorem IQ:OpR X (binaryOp .Add) MD:=by
 intro pins s σ H x y v u Q I rx ry h
 obtain⟨l,b,xs,zs,rfl,rfl,hH,hB,hz,q⟩:=h
 cases rx
 cases ry
 obtain⟨z,its,n,r,hl,e⟩:=I.zu hH
 obtain⟨z2,its2,n2,r2,hl2,e2⟩:=I.zu hB
 refine PySem.P.add_list e e2 ?_ (by rw[ax,ax];omega)
 have ea:its.toArray++its2.toArray=(its++its2).toArray:=by simp
 rw[ea]
 exact⟨.ref _,_,I.KL (t':=s.toks) (r.append r2) (by rw[List.length_append];omega),rfl,q _ I.fresh⟩
noncomputable def KN:R2:=λ x y H Q=>∃ l k xs,x=.ref l/\y=.int k/\H l=some (.lst xs)/\-(2 ^ 63)<=k/\k<2 ^ 63/\xs.length*k.toNat<=sizeLine /\
 ∀ p,H p=none->Q (.ref p) (upd H p (.lst (List.replicate k.toNat xs).flatten))
theorem len_rep {α:Type}(xs:List α)(k:Nat):(List.replicate k xs).flatten.length=k*xs.length:=by
 induction k with
 | zero=>simp
 | succ k ih=>rw[List.replicate_succ,List.flatten_cons,List.length_append,ih,Nat.succ_mul,Nat.add_comm]
theorem Dw:OpR X (binaryOp .Mult) KN:=by
 intro pins s σ H x y v u Q I rx ry h
 obtain⟨l,k,xs,rfl,rfl,hH,h1,h2,hz,q⟩:=h
 cases rx
 obtain⟨t,rfl⟩:=ry
 obtain⟨z,its,n,r,hl,e⟩:=I.zu hH
 have hlen:its.toArray.size*k.toNat<=sizeLine:=by rw[ax,<-hl];exact hz
 have hcap:¬ its.toArray.size*k.toNat>(2 ^ 63-1) / 8:=by
  have:(sizeLine:Nat)<=(2 ^ 63-1) / 8:=by decide
  omega
 have hfit:¬ (!Builtin.List.listFitsIndex k)=true:=by
  rw[fitsIndex_both h1 h2]
  exact aq
 have hlong:¬ Builtin.List.listTooLong (its.toArray.size*k.toNat)=true:=by
  rw[xj hlen]
  exact aq
 have hnew:List.foldl (λ x1 x2=>x1++x2) #[] (List.replicate (if its.toArray.isEmpty=true then 0 else k.toNat) its.toArray)=(List.replicate k.toNat its).flatten.toArray:=by
  have f0:∀ m:Nat,List.foldl (λ x1 x2=>x1++x2) #[] (List.replicate m its.toArray)=(List.replicate m its).flatten.toArray:=λ m=>by
   have:=foldl_rep its m []
   rw[List.nil_append]at this
   exact this
  rw[f0]
  cases its with
  | nil=>simp
  | cons a r'=>rw[af (by simp)]
 refine wpAny_binaryOp_repeat_ref (T:="list") (U:="int") (by decide) ⟨_,e,rfl⟩ (λ s'=>typeIs_int s' k t) noFill_list_mul F.fills_int_mul F.slot_int_rmul repeat_list F.slot_int_index.lookup
  (call_meets F.slot_int_rmul (typeIs_int s k t) F.entry_int_rmul (F.args_int_rmul_2 _ _) (int___rmul___int_list k t l its.toArray n)
   ⟨e,rfl,⟨_,e,rfl⟩,call_meets F.slot_list_mul ⟨_,e,rfl⟩ F.entry_list_mul (F.args_list_mul_2 _ _) (AutoListH.list___mul___list_int_3 l its.toArray n k t hfit hcap hlong) ⟨e,?_⟩⟩)
 rw[hnew]
 exact⟨.ref _,_,I.KL (t':=s.toks) (r.rep k.toNat) (by rw[len_rep,Nat.mul_comm];exact hz),rfl,q _ I.fresh⟩
end
section
variable {prog:Program}{w:World}{A:Around}{E:Value->Shared->Prop}{s:Shared}
end
section
variable {X:Cx}
end
section
variable {κ:Type}[DecidableEq κ]
noncomputable def gH (kvs:List (κ×V))(k:κ):Option V:=(kvs.find? λ kv=>decide (kv.1=k)).map (·.2)
noncomputable def putK (kvs:List (κ×V))(k:κ)(v:V):List (κ×V) :=
 if (kvs.any λ kv=>decide (kv.1=k))=true then kvs.map (λ kv=>if kv.1=k then (kv.1,v) else kv) else kvs++[(k,v)]
noncomputable def Hw (kvs:List (κ×V))(k:κ):List (κ×V):=kvs.filter λ kv=>decide (kv.1≠k)
theorem Dx {k:κ}:gH ([]:List (κ×V)) k=none:=rfl
theorem nc {p:κ×V}{r:List (κ×V)}{k:κ}(e:p.1=k):gH (p::r) k=some p.2:=by simp[gH,List.find?_cons,e]
theorem ng {p:κ×V}{r:List (κ×V)}{k:κ}(e:¬ p.1=k):gH (p::r) k=gH r k:=by simp[gH,List.find?_cons,e]
theorem rN (k:κ):∀ kvs:List (κ×V),(kvs.any λ kv=>decide (kv.1=k))=(gH kvs k).isSome
 | []=>rfl
 | p::r=>by
  rw[List.any_cons]
  by_cases e:p.1=k
  ·simp only[nc e,decide_eq_true e,Bool.true_or,Option.isSome_some]
  ·rw[ng e,decide_eq_false e,Bool.false_or];exact rN k r
theorem kP (kvs:List (κ×V))(k:κ)(v:V):(putK kvs k v).length<=kvs.length+1:=by
 unfold putK
 split
 ·rw[ah];omega
 ·rw[List.length_append,List.length_cons,List.length_nil];omega
theorem rO {kvs:List (κ×V)}{k:κ}(v:V)(h:gH kvs k=none):putK kvs k v=kvs++[(k,v)]:=by
 unfold putK
 rw[rN,h]
 exact af (by decide)
theorem oK.jH {o:Option V}{u:Option Value}(r:oK o u):o.isSome=u.isSome:=by
 cases o with
 | none=>cases u with
  | none=>rfl
  | some _=>exact(show False from r).elim
 | some _=>cases u with
  | none=>exact(show False from r).elim
  | some _=>rfl
theorem oK.getD {o:Option V}{u:Option Value}{d:V}{d':Value}(r:oK o u)(rd:RelV d d'):RelV (o.getD d) (u.getD d'):=by
 cases o with
 | none=>cases u with
  | none=>exact rd
  | some _=>exact(show False from r).elim
 | some _=>cases u with
  | none=>exact(show False from r).elim
  | some _=>exact r
theorem KV.val {kvs:List (κ×V)}{vs:List (κ×Value)}(r:KV kvs vs)(k:κ):oK (gH kvs k) (valueAt vs k):=by
 unfold KV at r
 induction r with
 | nil=>exact True.intro
 | @cons p q ps qs h t ih =>
  obtain⟨h1,h2⟩:=h
  by_cases e:p.1=k
  ·have e':q.1=k:=h1.symm.trans e
   have b:valueAt (q::qs) k=some q.2:=by simp[valueAt,List.find?_cons,e']
   rw[nc e,b];exact h2
  ·have e':¬ q.1=k:=λ z=>e (h1.trans z)
   have b:valueAt (q::qs) k=valueAt qs k:=by simp[valueAt,List.find?_cons,e']
   rw[ng e,b];exact ih
theorem KV.any {kvs:List (κ×V)}{vs:List (κ×Value)}(r:KV kvs vs)(k:κ):(kvs.any λ kv=>decide (kv.1=k))=vs.any λ kv=>decide (kv.1=k):=by
 unfold KV at r
 induction r with
 | nil=>rfl
 | cons h t ih=>rw[List.any_cons,List.any_cons,ih,h.1]
theorem KV.IS {kvs:List (κ×V)}{vs:List (κ×Value)}(r:KV kvs vs)(k:κ){y:V}{u:Value}(ry:RelV y u) :
  KV (kvs.map λ kv=>if kv.1=k then (kv.1,y) else kv) (vs.map λ kv=>if kv.1=k then (kv.1,u) else kv):=by
 unfold KV at r ⊢
 induction r with
 | nil=>exact .nil
 | @cons p q ps qs h t ih =>
  rw[List.map_cons,List.map_cons]
  refine .cons ?_ ih
  obtain⟨h1,h2⟩:=h
  by_cases e:p.1=k
  ·rw[ae e,ae (h1.symm.trans e)];exact⟨h1,ry⟩
  ·rw[af e,af (λ z=>e (h1.trans z))];exact⟨h1,h2⟩
theorem KV.put {kvs:List (κ×V)}{vs:List (κ×Value)}(r:KV kvs vs)(k:κ){y:V}{u:Value}(ry:RelV y u):KV (putK kvs k y) (stored vs k u):=by
 unfold putK stored
 rw[r.any k]
 by_cases e:(vs.any λ kv=>decide (kv.1=k))=true
 ·rw[ae e,ae e];exact r.IS k ry
 ·rw[af e,af e];exact Paired.snoc r ⟨rfl,ry⟩
theorem KV.drop {kvs:List (κ×V)}{vs:List (κ×Value)}(r:KV kvs vs)(k:κ):KV (Hw kvs k) (without vs k):=by
 unfold KV at r ⊢
 unfold Hw without
 induction r with
 | nil=>exact .nil
 | @cons p q ps qs h t ih =>
  obtain⟨h1,h2⟩:=h
  rw[List.filter_cons,List.filter_cons]
  by_cases e:p.1=k
  ·have a:¬ decide (p.1≠k)=true:=by simp[e]
   have b:¬ decide (q.1≠k)=true:=by simp[h1.symm.trans e]
   rw[af a,af b];exact ih
  ·have e':¬ q.1=k:=λ z=>e (h1.trans z)
   have a:decide (p.1≠k)=true:=by simp[e]
   have b:decide (q.1≠k)=true:=by simp[e']
   rw[ae a,ae b];exact .cons ⟨h1,h2⟩ ih
theorem KV.keys {kvs:List (κ×V)}{vs:List (κ×Value)}(r:KV kvs vs):kvs.map (·.1)=vs.map (·.1):=by
 unfold KV at r
 induction r with
 | nil=>rfl
 | cons h t ih=>rw[List.map_cons,List.map_cons,ih,h.1]
theorem KV.length {kvs:List (κ×V)}{vs:List (κ×Value)}(r:KV kvs vs):kvs.length=vs.length:=Paired.length r
end
theorem uC {P:Program}{w:World}{k:Key}{u:Value}(r:RelV (kV k) u):(cv P w).is k u=true:=by
 cases k with
 | inl i=>obtain⟨t,e⟩:=(show ∃ t,u=Value.int i t from r);subst e;exact wY P w i t
 | inr x=>obtain⟨t,e⟩:=(show ∃ t,u=Value.str x t from r);subst e;exact wZ P w x t
theorem uD {P:Program}{w:World}:∀ {ks:List Key} {us:List Value},Vals (ks.map kV) us->ItemsAre (cv P w) ks us
 | [],_,r=>by rw[List.map_nil]at r;cases r;exact .nil
 | k::ks,_,r=>by
  rw[List.map_cons]at r
  cases r with
  | cons h t=>exact .cons (uC h) (uD t)
noncomputable abbrev KT (H:Hp):List (List Key×V)->List (List Key×Addr×Value)->Prop:=Paired λ p q=>p.1=q.1/\H q.2.1=some (.tup (p.1.map kV))/\RelV p.2 q.2.2
theorem KT.val {H:Hp}{kvs:List (List Key×V)}{xs:List (List Key×Addr×Value)}(r:KT H kvs xs)(k:List Key):oK (gH kvs k) ((atKey xs k).map (·.2)):=by
 induction r with
 | nil=>exact True.intro
 | @cons p q ps qs h t ih =>
  obtain⟨h1,_,h2⟩:=h
  by_cases e:p.1=k
  ·have e':q.1=k:=h1.symm.trans e
   have b:atKey (q::qs) k=some q.2:=by simp[atKey,List.find?_cons,e']
   rw[nc e,b];exact h2
  ·have e':¬ q.1=k:=λ z=>e (h1.trans z)
   have b:atKey (q::qs) k=atKey qs k:=by simp[atKey,List.find?_cons,e']
   rw[ng e,b];exact ih
theorem KT.IS {H:Hp}{kvs:List (List Key×V)}{xs:List (List Key×Addr×Value)}(r:KT H kvs xs)(k:List Key){y:V}{u:Value}(ry:RelV y u) :
  KT H (kvs.map λ kv=>if kv.1=k then (kv.1,y) else kv) (xs.map (putAt k u)):=by
 induction r with
 | nil=>exact .nil
 | @cons p q ps qs h t ih =>
  rw[List.map_cons,List.map_cons]
  refine .cons ?_ ih
  obtain⟨h1,h2,h3⟩:=h
  unfold putAt
  by_cases e:p.1=k
  ·rw[ae e,ae (h1.symm.trans e)];exact⟨h1,h2,ry⟩
  ·rw[af e,af (λ z=>e (h1.trans z))];exact⟨h1,h2,h3⟩
theorem KT.put {H:Hp}{kvs:List (List Key×V)}{xs:List (List Key×Addr×Value)}(r:KT H kvs xs)(k:List Key){b:Addr}{y:V}{u:Value}(hb:H b=some (.tup (k.map kV)))(ry:RelV y u) :
  KT H (putK kvs k y) (storedH xs k b u):=by
 have e:(kvs.any λ kv=>decide (kv.1=k))=(atKey xs k).isSome:=by
  rw[rN,(r.val k).jH,Option.isSome_map]
 unfold putK storedH
 rw[e]
 by_cases q:(atKey xs k).isSome=true
 ·rw[ae q,ae q];exact r.IS k ry
 ·rw[af q,af q];exact Paired.snoc r ⟨rfl,hb,ry⟩
theorem KT.keeps {H H':Hp}{kvs:List (List Key×V)}{xs:List (List Key×Addr×Value)}(r:KT H kvs xs)(ht:∀ b ys,H b=some (.tup ys)->H' b=some (.tup ys)):KT H' kvs xs :=
 Paired.FH r λ _ _ z=>⟨z.1,ht _ _ z.2.1,z.2.2⟩
section
variable {P:Program}{w:World}{H:Hp}{h:Heap}{a:Addr}
theorem Hx {u:HO}(ok:HOk P w H h)(e:Rd H a u):cE P w H h a u:=e.ok ok
theorem rP {kvs:List (Key×V)}(ok:HOk P w H h)(e:Rd H a (.dK kvs)):kvs.length<=sizeLine/\(a==sysModules)=false/\∃ vs,KV kvs vs/\h.DictOf (cv P w) a vs :=
 show cE P w H h a (.dK kvs) from Hx ok e
theorem Dy {kvs:List (Key×V)}(ok:HOk P w H h)(e:H a=some (.dK kvs)):kvs.length<=sizeLine/\(a==sysModules)=false/\∃ vs,KV kvs vs/\h.DictOf (cv P w) a vs:=rP ok (.inl e)
theorem rQ {ks:List Key}(ok:HOk P w H h)(e:H a=some (.tup (ks.map kV))):(tupleKind (cv P w)).is h ks a:=by
 obtain⟨_,its,r,o,h1,h2,n,h3⟩:=(show cE P w H h a (.tup (ks.map kV)) from ok a _ e)
 exact⟨o,its.toArray,n,h1,h2,h3,by simpa using uD r⟩
theorem xk {kvs:List (List Key×V)}(ok:HOk P w H h)(e:Rd H a (.dT kvs)):kvs.length<=sizeLine/\(a==sysModules)=false /\
  ∃ xs,KT H kvs xs/\h.DictOfH (tupleKind (cv P w)) a xs:=by
 obtain⟨z,y,xs,r,o,es,ep,h1,h2,h3,h4,h5⟩:=(show cE P w H h a (.dT kvs) from Hx ok e)
 refine⟨z,y,xs,r,o,es,ep,h1,h2,h3,h4,λ x hx=>?_,h5⟩
 have all:∀ {l:List (List Key×V)} {m:List (List Key×Addr×Value)},KT H l m->∀ x∈m,(tupleKind (cv P w)).is h x.1 x.2.1:=by
  intro l m q
  induction q with
  | nil=>intro x hx;exact nomatch hx
  | @cons p q ps qs hq t ih =>
   intro x hx
   rcases ar.mp hx with e | hx
   ·subst e
    exact rQ ok (by rw[<-hq.1];exact hq.2.1)
   ·exact ih x hx
 exact all r x hx
theorem KO {kvs:List (List Key×V)}(ok:HOk P w H h)(e:H a=some (.dT kvs)):kvs.length<=sizeLine/\(a==sysModules)=false /\
  ∃ xs,KT H kvs xs/\h.DictOfH (tupleKind (cv P w)) a xs:=xk ok (.inl e)
end
noncomputable def ml (H:Hp)(a:Addr)(y:V)(r:Option V):Prop :=
 (∃ kvs k,Rd H a (.dK kvs)/\y=kV k/\r=gH kvs k)\/∃ kvs k b,Rd H a (.dT kvs)/\y=.ref b/\H b=some (.tup (k.map kV))/\r=gH kvs k
noncomputable def xl (H:Hp)(a:Addr)(y v:V)(H':Hp):Prop :=
 (∃ kvs k,H a=some (.dK kvs)/\y=kV k/\kvs.length<sizeLine/\H'=upd H a (.dK (putK kvs k v))) \/
 ∃ kvs k b,H a=some (.dT kvs)/\y=.ref b/\H b=some (.tup (k.map kV))/\kvs.length<sizeLine/\H'=upd H a (.dT (putK kvs k v))
theorem ml.k {H:Hp}{a:Addr}{kvs:List (Key×V)}{k:Key}(e:H a=some (.dK kvs)):ml H a (kV k) (gH kvs k):=.inl ⟨kvs,k,.inl e,rfl,rfl⟩
theorem ml.t {H:Hp}{a b:Addr}{kvs:List (List Key×V)}{k:List Key}(e:H a=some (.dT kvs))(eb:H b=some (.tup (k.map kV))):ml H a (.ref b) (gH kvs k):=.inr ⟨kvs,k,b,.inl e,rfl,eb,rfl⟩
theorem xl.k {H:Hp}{a:Addr}{kvs:List (Key×V)}{k:Key}{v:V}(e:H a=some (.dK kvs))(hl:kvs.length<sizeLine):xl H a (kV k) v (upd H a (.dK (putK kvs k v))):=.inl ⟨kvs,k,e,rfl,hl,rfl⟩
theorem xl.t {H:Hp}{a b:Addr}{kvs:List (List Key×V)}{k:List Key}{v:V}(e:H a=some (.dT kvs))(eb:H b=some (.tup (k.map kV)))(hl:kvs.length<sizeLine) :
  xl H a (.ref b) v (upd H a (.dT (putK kvs k v))):=.inr ⟨kvs,k,b,e,rfl,eb,hl,rfl⟩
section
variable {X:Cx}{pins:List (Addr×Obj)}{σ:St}{H:Hp}{s:Shared}{a:Addr}{y v:V}{u r:Value}{o:Option V}{A:Around}{E:Value->Shared->Prop}
theorem Inv.big (I:Inv X pins σ H s):sysModules<s.heap.objs.size:=by
 have h:mainGlobals<s.heap.objs.size:=(I.mod.glob.keeps I.bk).lt
 exact Nat.lt_trans (by decide) h
theorem B3 {Q:Value->Shared->Prop}(hu:A.units+1<cLine)(I:Inv X pins σ H s)(g:ml H a y (some v))(ry:RelV y u)(h:∀ w' s',Inv X pins σ H s'->RelV v w'->Q w' s') :
  wpAny (model X.prog X.w) A (getItem (.ref a) u) Q E s:=by
 rcases g with⟨kvs,k,e,ey,l⟩ | ⟨kvs,k,b,e,ey,eb,l⟩
 ·subst ey
  obtain⟨z,hd,vs,rel,dd⟩:=rP I.hok e
  obtain⟨w',hw,rw'⟩:=oK.some_of (v:=v) (o:=valueAt vs k) (by rw[l];exact rel.val k)
  exact wpAny_getItem_of (uC ry) dd.mapOf hw (h w' _ (I.tok _) rw')
 ·subst ey
  cases (show u=Value.ref b from ry)
  obtain⟨z,hd,xs,rel,dd⟩:=xk I.hok e
  obtain⟨w',hw,rw'⟩:=oK.some_of (v:=v) (o:=(atKey xs k).map (·.2)) (by rw[l];exact rel.val k)
  obtain⟨p,hp,hp2⟩:=Option.map_eq_some_iff.mp hw
  refine wpAny_getItem_heap (tupleKind_room_in1 hu) (rQ I.hok eb) dd hp ?_
  rw[hp2]
  exact h w' _ (I.tok _) rw'
theorem ME {Q:Value->Shared->Prop}(hu:A.units+1<cLine)(I:Inv X pins σ H s)(g:ml H a y o)(ry:RelV y u)(h:∀ s',Inv X pins σ H s'->Q (.bool o.isSome) s') :
  wpAny (model X.prog X.w) A (compareOp .In u (.ref a)) Q E s:=by
 rcases g with⟨kvs,k,e,ey,l⟩ | ⟨kvs,k,b,e,ey,eb,l⟩
 ·subst ey
  obtain⟨z,hd,vs,rel,dd⟩:=rP I.hok e
  refine wpAny_in_of (uC ry) hd dd.mapOf ?_
  rw[<-(rel.val k).jH,<-l]
  exact h _ (I.tok _)
 ·subst ey
  cases (show u=Value.ref b from ry)
  obtain⟨z,hd,xs,rel,dd⟩:=xk I.hok e
  refine wpAny_in_heap (tupleKind_room_in1 hu) (rQ I.hok eb) hd dd ?_
  have q:=(rel.val k).jH
  rw[Option.isSome_map]at q
  rw[<-q,<-l]
  exact h _ (I.tok _)
theorem FX {Q:Value->Shared->Prop}(hu:A.units+1<cLine)(I:Inv X pins σ H s)(g:ml H a y o)(ry:RelV y u)(h:∀ s',Inv X pins σ H s'->Q (.bool (!o.isSome)) s') :
  wpAny (model X.prog X.w) A (compareOp .NotIn u (.ref a)) Q E s:=by
 rcases g with⟨kvs,k,e,ey,l⟩ | ⟨kvs,k,b,e,ey,eb,l⟩
 ·subst ey
  obtain⟨z,hd,vs,rel,dd⟩:=rP I.hok e
  refine wpAny_notIn_of (uC ry) hd dd.mapOf ?_
  rw[<-(rel.val k).jH,<-l]
  exact h _ (I.tok _)
 ·subst ey
  cases (show u=Value.ref b from ry)
  obtain⟨z,hd,xs,rel,dd⟩:=xk I.hok e
  refine wpAny_notIn_heap (tupleKind_room_in1 hu) (rQ I.hok eb) hd dd ?_
  have q:=(rel.val k).jH
  rw[Option.isSome_map]at q
  rw[<-q,<-l]
  exact h _ (I.tok _)
theorem vm {h':Heap}{t':Nat}{ob:HO}(I:Inv X pins σ H s)(mu:Mut (H a))(hs:Heap.SameBut a s.heap h')(he:∃ q,h'.get? a=some q)(new:cE X.prog X.w (upd H a ob) h' a ob) :
  Inv X pins σ (upd H a ob) {s with heap:=h',toks:=t'} :=
 I.write (x:=a) (e:=a) mu (.inl rfl) (λ b q hb z=>(hs.2 b hb).trans z) he new
theorem Dz {P:Program}{w:World}{H':Hp}{h':Heap}{kvs:List (Key×V)}{vs:List (Key×Value)}(z:kvs.length<=sizeLine)(hd:(a==sysModules)=false)(rel:KV kvs vs)(dd:h'.DictOf (cv P w) a vs) :
  cE P w H' h' a (.dK kvs):=⟨z,hd,vs,rel,dd⟩
theorem B4 {H':Hp}{Q:Unit->Shared->Prop}(hu:A.units+1<cLine)(I:Inv X pins σ H s)(g:xl H a y v H')(ry:RelV y u)(rv:RelV v r)(h:∀ s',Inv X pins σ H' s'->Q () s') :
  wpAny (model X.prog X.w) A (setItem (.ref a) u r) Q E s:=by
 rcases g with⟨kvs,k,e,ey,l,eH⟩ | ⟨kvs,k,b,e,ey,eb,l,eH⟩
 ·subst ey eH
  obtain⟨z,hd,vs,rel,dd⟩:=Dy I.hok e
  have hz:vs.length<=sizeLine:=by rw[<-rel.length];exact z
  have hl:(putK kvs k v).length<=sizeLine:=by have:=kP kvs k v;omega
  refine wpAny_setItem_pairs (hsz:=hz) (uC ry) dd λ h' dd' hs=>h _ ?_
  have he:∃ q,h'.get? a=some q:=let ⟨q,_,_,hq,_⟩:=dd';⟨q,hq⟩
  exact vm I (by rw[e];exact True.intro) hs he (Dz hl hd (rel.put k rv) dd')
 ·subst ey eH
  cases (show u=Value.ref b from ry)
  obtain⟨z,hd,xs,rel,dd⟩:=KO I.hok e
  have hz:xs.length<=sizeLine:=by rw[<-Paired.length rel];exact z
  have hl:(putK kvs k v).length<=sizeLine:=by have:=kP kvs k v;omega
  refine wpAny_setItem_heap (hsz:=hz) (tupleKind_room_in1 hu) (rQ I.hok eb) dd λ h' dd' hs=>h _ ?_
  obtain⟨q,es,ep,hq,h2,h3,h4,_,h5⟩:=dd'
  refine vm I (by rw[e];exact True.intro) hs ⟨q,hq⟩ ⟨hl,hd,_,(rel.put k eb rv).keeps λ c ys ec=>?_,q,es,ep,hq,h2,h3,h4,h5⟩
  rw[aV (Ks ec e (λ z=>nomatch z))]
  exact ec
end
section
variable {X:Cx}{pins:List (Addr×Obj)}{σ:St}{H:Hp}{s:Shared}{a:Addr}{kvs:List (Key×V)}{k:Key}{u:Value}{A:Around}{E:Value->Shared->Prop}
theorem KP {Q:Value->Shared->Prop}(I:Inv X pins σ H s)(e:Rd H a (.dK kvs))(h:∀ t s',Inv X pins σ H s'->Q (.int kvs.length t) s'):wpAny (model X.prog X.w) A (call (.builtin "len") [.ref a]) Q E s:=by
 obtain⟨z,hd,vs,rel,dd⟩:=rP I.hok e
 refine call_len_dict hd dd (by rw[<-rel.length];rw[sizeLine_eq]at z;omega) ?_
 rw[<-rel.length]
 exact h _ _ (I.tok _)
end
noncomputable def IT (i:Expr):Prop:=∀ ov iv,subscripted i false ov iv=operate [ov,iv] (getItem ov iv)
theorem FY {prog:Program}{w:World}{A:Around}{E:Value->Shared->Prop}{s:Shared}{env:Env}{value slice:Expr}{pos:Pos}{T id:String}{Q:Value->Shared->Prop}
  (hl:typeLookup (.type T) "__getitem__"=pure (some (.builtin id))) (hs:IT slice)
  (h:wpAny (model prog w) A (eval value env) (λ o s₁=>wpAny (model prog w) A (eval slice env) (λ i s₂=>s₂.TypeIs o T/\wpAny (model prog w) A (getItem o i) Q E s₂) E s₁) E s) :
  wpAny (model prog w) A (eval (.Subscript value slice pos) env) Q E s:=by
 refine Subscript_ (wpAny_mono h (λ o s₁ h₁=>wpAny_mono h₁ (λ i s₂ h₂=>?_) λ _ _ x=>x) λ _ _ x=>x)
 obtain⟨hT,h₂⟩:=h₂
 unfold subscriptTail
 refine av ?_
 rw[getitemInPython_of_ne hT.not_modules]
 refine av (wpAny_specialOf hT hl ?_)
 have fin:wpAny (model prog w) A (subscripted slice false o i) (λ r s₃=>wpAny (model prog w) A (letTemporaryGo value o r>>=λ _=>pure r) Q E s₃) E s₂:=by
  rw[hs o i]
  exact wpAny_operating (wpAny_mono h₂ (λ r s₃ h₃=>av (wpAny_letTemporaryGo (aw h₃))) λ _ _ x=>x)
 first
  | exact aw (av fin)
  | exact av (aw (av fin))
  | exact av fin
theorem xm {X:Cx}{pins:List (Addr×Obj)}{σ:St}{H:Hp}{s:Shared}{a:Addr}{y:V}{o:Option V}(I:Inv X pins σ H s)(g:ml H a y o):s.TypeIs (.ref a) "dict":=by
 rcases g with⟨kvs,k,e,_,_⟩ | ⟨kvs,k,b,e,_,_,_⟩
 ·obtain⟨_,_,vs,_,dd⟩:=rP I.hok e
  exact dd.typeIs
 ·obtain⟨_,_,xs,_,dd⟩:=xk I.hok e
  exact dd.typeIs
noncomputable def Hy (td ty:TE):TE:=λ σ H Q=>td σ H λ x H1=>ty σ H1 λ y H2=>∃ a v,x=.ref a/\ml H2 a y (some v)/\Q v H2
noncomputable def KQ (ty td:TE):TE:=λ σ H Q=>ty σ H λ y H1=>td σ H1 λ x H2=>∃ a o,x=.ref a/\ml H2 a y o/\Q (.bl o.isSome) H2
noncomputable def AO (ty td:TE):TE:=λ σ H Q=>ty σ H λ y H1=>td σ H1 λ x H2=>∃ a o,x=.ref a/\ml H2 a y o/\Q (.bl (!o.isSome)) H2
noncomputable def DA (td ty tv:TE):TS:=λ D σ H=>tv σ H λ v H1=>td σ H1 λ x H2=>ty σ H2 λ y H3=>∃ a H4,x=.ref a/\xl H3 a y v H4/\D.nx σ H4
section
variable {X:Cx}{o i e value:Expr}{pos pos' tpos:Pos}{td ty tv:TE}
theorem AQ (hu:X.A.units+1<cLine)(ho:PE X o td)(hi:PE X i ty)(hs:IT i):PE X (.Subscript o i pos) (Hy td ty):=by
 intro pins s σ H Q I h
 refine FY PySem.F.slot_dict_getitem.lookup hs (thn (ho pins s σ H _ I h) λ u s1 ⟨x,H1,I1,rx,q1⟩=>thn (hi pins s1 σ H1 _ I1 q1) λ iv s2 ⟨y,H2,I2,ry,a,v,ex,g,q2⟩=>?_)
 subst ex
 obtain rfl:u=Value.ref a:=rx
 exact⟨xm I2 g,B3 hu I2 g ry λ w' s3 I3 rw'=>⟨v,H2,I3,rw',q2⟩⟩
theorem IU (hu:X.A.units+1<cLine)(hi:PE X i ty)(ho:PE X o td):PC X .In i o (KQ ty td):=by
 intro pins s σ H Q I h
 refine thn (hi pins s σ H _ I h) λ iv s1 ⟨y,H1,I1,ry,q1⟩=>thn (ho pins s1 σ H1 _ I1 q1) λ u s2 ⟨x,H2,I2,rx,a,ov,ex,g,q2⟩=>?_
 subst ex
 obtain rfl:u=Value.ref a:=rx
 exact ME hu I2 g ry λ s3 I3=>⟨.bl ov.isSome,H2,I3,rfl,q2⟩
theorem B5 (hu:X.A.units+1<cLine)(hi:PE X i ty)(ho:PE X o td):PC X .NotIn i o (AO ty td):=by
 intro pins s σ H Q I h
 refine thn (hi pins s σ H _ I h) λ iv s1 ⟨y,H1,I1,ry,q1⟩=>thn (ho pins s1 σ H1 _ I1 q1) λ u s2 ⟨x,H2,I2,rx,a,ov,ex,g,q2⟩=>?_
 subst ex
 obtain rfl:u=Value.ref a:=rx
 exact FX hu I2 g ry λ s3 I3=>⟨.bl (!ov.isSome),H2,I3,rfl,q2⟩
theorem AR (hu:X.A.units+1<cLine)(ho:PE X o td)(hi:PE X i ty)(hv:PE X value tv)(hs:swapsWith value (some (.Subscript o i pos')) pos.line X.env=pure false) :
  PS X (.Assign [.Subscript o i pos'] value pos) (DA td ty tv):=by
 intro pins s σ H D I h
 refine wpAny_Assign_Subscript (thn (hv pins s σ H _ I h) λ r s1 ⟨v,H1,I1,rv,q1⟩=>thn (ho pins s1 σ H1 _ I1 q1) λ u s2 ⟨x,H2,I2,rx,q2⟩=>thn (hi pins s2 σ H2 _ I2 q2) λ iv s3 ⟨y,H3,I3,ry,a,H4,ex,g,q3⟩=>?_) hs
 subst ex
 obtain rfl:u=Value.ref a:=rx
 exact B4 hu I3 g ry rv λ s4 I4=>⟨σ,H4,I4,q3⟩
end
theorem DB {P:Program}{w:World}{H:Hp}(h:Heap)(hb:sysModules<h.objs.size):cE P w H (h.push {cls:=.type "dict",data:=.dict #[]}) h.objs.size (.dK []) :=
 ⟨Nat.zero_le _,beq_eq_false_iff_ne.mpr (Ne.symm (Nat.ne_of_lt hb)),[],.nil,Heap.DictOf.new h⟩
section
variable {X:Cx}{pos:Pos}
end
noncomputable def zw:List (TE×TE)->St->Hp->(List (V×V)->Hp->Prop)->Prop
 | [],_,H,Q=>Q [] H
 | (tk,tv)::r,σ,H,Q=>tk σ H λ x H1=>tv σ H1 λ y H2=>zw r σ H2 λ ps H3=>Q ((x,y)::ps) H3
noncomputable abbrev VV:List (V×V)->List (Value×Value)->Prop:=Paired λ p q=>RelV p.1 q.1/\RelV p.2 q.2
noncomputable def PPs (X:Cx)(pos:Pos)(keys:List (Option Expr))(values:List Expr)(trs:List (TE×TE)):Prop :=
 ∀ (pins:List (Addr×Obj)) (s:Shared) (σ:St) (H:Hp) (Q:List (V×V)->Hp->Prop),Inv X pins σ H s->zw trs σ H Q ->
  wpAny (model X.prog X.w) X.A (evalPairs (pairTrees keys values X.env pos)) (λ vs s'=>∃ ps H',Inv X pins σ H' s'/\VV ps vs/\Q ps H') X.xe s
theorem qP {X:Cx}{pos:Pos}:PPs X pos [] [] []:=λ pins s σ H Q I h=>pairTrees_nil_walk ⟨[],H,I,.nil,h⟩
theorem kQ {X:Cx}{pos:Pos}{k v:Expr}{ks:List (Option Expr)}{vs:List Expr}{tk tv:TE}{trs:List (TE×TE)}(hk:PE X k tk)(hv:PE X v tv)(hr:PPs X pos ks vs trs) :
  PPs X pos (some k::ks) (v::vs) ((tk,tv)::trs):=λ pins s σ H Q I h =>
 pairTrees_cons_walk (thn (hk pins s σ H _ I h) λ u s1 ⟨x,H1,I1,rx,q1⟩=>thn (hv pins s1 σ H1 _ I1 q1) λ w2 s2 ⟨y,H2,I2,ry,q2⟩ =>
  thn (hr pins s2 σ H2 _ I2 q2) λ ws s3 ⟨ps,H3,I3,rel,q3⟩=>⟨(x,y)::ps,H3,I3,.cons ⟨rx,ry⟩ rel,q3⟩)
noncomputable def kS (kvs more:List (Key×V)):List (Key×V):=more.foldl (λ acc kv=>putK acc kv.1 kv.2) kvs
theorem KV.merge:∀ {more:List (Key×V)} {rs:List (Key×Value)} {kvs:List (Key×V)} {vs:List (Key×Value)},KV more rs->KV kvs vs->KV (kS kvs more) (merged vs rs):=by
 intro more rs kvs vs r
 unfold KV at r
 induction r generalizing kvs vs with
 | nil=>intro q;exact q
 | @cons p q ps qs h t ih =>
  intro r0
  have e:KV (putK kvs p.1 p.2) (stored vs q.1 q.2):=by
   have:=r0.put p.1 h.2
   rw[<-h.1];exact this
  exact ih e
theorem mw:∀ (more kvs:List (Key×V)),(kS kvs more).length<=kvs.length+more.length
 | [],kvs=>by show kvs.length<=kvs.length+0;omega
 | p::r,kvs=>by
  have h1:=mw r (putK kvs p.1 p.2)
  have h2:=kP kvs p.1 p.2
  show(kS (putK kvs p.1 p.2) r).length<=_
  rw[List.length_cons];omega
theorem rR {P:Program}{w:World}:∀ {kvs:List (Key×V)} {ws:List (Value×Value)},VV (kvs.map λ kv=>(kV kv.1,kv.2)) ws->∃ rs,Carries (cv P w) ws rs/\KV kvs rs
 | [],_,r=>by rw[List.map_nil]at r;cases r;exact⟨[],True.intro,.nil⟩
 | p::kvs,_,r=>by
  rw[List.map_cons]at r
  cases r with
  | @cons a b as bs h t =>
   obtain⟨rs,c,q⟩:=rR (P:=P) (w:=w) t
   obtain⟨b1,b2⟩:=b
   exact⟨(p.1,b2)::rs,⟨uC h.1,rfl,c⟩,.cons ⟨rfl,h.2⟩ q⟩
noncomputable def DC (trs:List (TE×TE)):TE:=λ σ H Q=>∀ p,H p=none->zw trs σ (upd H p (.dK [])) λ ps H2=>H2 p=some (.dK [])/\∃ kvs:List (Key×V),ps=kvs.map (λ kv=>(kV kv.1,kv.2))/\kvs.length<=15/\Q (.ref p) (upd H2 p (.dK (kS [] kvs)))
theorem qQ {X:Cx}{pos:Pos}{keys:List (Option Expr)}{values:List Expr}{trs:List (TE×TE)}(h:PPs X pos keys values trs)(hall:keys.all (·.isSome)=true)(hl:keys.length=values.length)(h0:keys≠[])
  (h15:keys.length<=15):PE X (.Dict keys values pos) (DC trs):=by
 intro pins s σ H Q I q
 have hn:=I.hok.fresh (ag s.heap.objs.size)
 have I1:=I.laid (a:=s.heap.objs.size) (o:=.dK []) (h':=s.heap.push {cls:=.type "dict",data:=.dict #[]}) (t':=s.toks) (λ _ _ q=>aC _ q) (ag _) (DB s.heap I.big)
 refine wpAny_Dict_walk (knd:=cv X.prog X.w) hall hl h0 h15 (thn (h pins _ σ _ _ I1 (q _ hn)) λ ws s2 ⟨ps,H2,I2,rel,e,kvs,ep,lk,q2⟩=>?_)
 subst ep
 obtain⟨rs,c,rk⟩:=rR (P:=X.prog) (w:=X.w) rel
 obtain⟨z,hd,vs0,r0,dd⟩:=Dy I2.hok e
 cases r0
 refine⟨rs,c,dd,λ h' dd' hs=>⟨.ref s.heap.objs.size,_,?_,rfl,q2⟩⟩
 have hz:(kS [] kvs).length<=sizeLine:=by
  have h1:=mw kvs []
  rw[List.length_nil]at h1
  rw[sizeLine_eq];omega
 have he:∃ q,h'.get? s.heap.objs.size=some q:=let ⟨q,_,_,hq,_⟩:=dd';⟨q,hq⟩
 exact vm I2 (by rw[e];exact True.intro) hs he (Dz hz hd (rk.merge .nil) dd')
structure M1 (X:Cx)(o:Expr)(m:Str)(apos:Pos)(e:Expr)(cpos:Pos):Prop where
 base:attributeBase o m X.env (eval o X.env)=eval o X.env
 few:((backTo cpos (starEach [e] X.env)).all (λ x=>!x.1)&&(backToKw cpos (keywordEach [] X.env)).all (λ x=>x.1.isSome)
  && decide (([e]:List Expr).length+([]:List Keyword).length+(if ([]:List Keyword).isEmpty then 0 else 1)<30))=true
 line:(apos.endLine==cpos.line)=true
 trees:backTo cpos (starEach [e] X.env)=[(false,eval e X.env)]
structure M2 (X:Cx)(o:Expr)(m:Str)(apos:Pos)(e f:Expr)(cpos:Pos):Prop where
 base:attributeBase o m X.env (eval o X.env)=eval o X.env
 few:((backTo cpos (starEach [e,f] X.env)).all (λ x=>!x.1)&&(backToKw cpos (keywordEach [] X.env)).all (λ x=>x.1.isSome)
  && decide (([e,f]:List Expr).length+([]:List Keyword).length+(if ([]:List Keyword).isEmpty then 0 else 1)<30))=true
 line:(apos.endLine==cpos.line)=true
 trees:backTo cpos (starEach [e,f] X.env)=[(false,eval e X.env),(false,eval f X.env)]
section
variable {X:Cx}{pins:List (Addr×Obj)}{σ:St}{H:Hp}{s:Shared}{a:Addr}{y d:V}{u r:Value}{o:Option V}{A:Around}{E:Value->Shared->Prop}
end
section
variable {X:Cx}{o e f:Expr}{apos cpos:Pos}{td ty tx:TE}
end
section
variable {X:Cx}{pins:List (Addr×Obj)}{σ:St}{H:Hp}{s:Shared}{a:Addr}{kvs:List (Key×V)}{A:Around}{E:Value->Shared->Prop}
end
section
variable {X:Cx}{pins:List (Addr×Obj)}{σ:St}{H:Hp}{s:Shared}{a:Addr}{y:V}{u:Value}{A:Around}{E:Value->Shared->Prop}
end
end L2
namespace Att
open PySem PySem.W PySem.Calls PyProof.Rows
theorem qu {P:Params}{h:Heap}:∀ (ns:List Int) (vs:List Value),WellAll P h vs (ns.map WData.int)->IntsAre vs ns:=by
 intro ns
 induction ns with
 | nil =>
  intro vs w
  rw[List.map_nil]at w
  cases w
  exact .nil
 | cons n ns ih =>
  intro vs w
  rw[List.map_cons]at w
  cases w with
  | cons a b =>
   cases a
   exact .cons _ _ (ih _ b)
theorem uE {l:OpenLaw}{n:Nat}(hn:l.most=some n){P:Params}{h:Heap}{args:List WData}{vals:List Value}
  (hpre:l.row.toRowW.claim.pre args=true) (hwl:WellAll P h vals args) :
  ∃ a vs ns,vals=[Value.ref a]/\args=[WData.list (ns.map WData.int)]/\h.get? a=some {cls:=.type "list",data:=.seq vs.toArray}/\IntsAre vs ns/\ns.length<=n:=by
 have hsh:WShape.hasAll [] args [.list .int]=true:=(pre_splitW hpre).1
 have hc:l.pre.holds [] {args:=args}=true:=(pre_splitW hpre).2
 obtain⟨d,r,rfl,h1,h2⟩:=hasAllW_cons hsh
 obtain rfl:=hasAllW_nil h2
 obtain⟨xs,rfl,h3⟩:=hasW_list h1
 obtain⟨ns,rfl⟩:=items_int h3
 have hlen:ns.length<=n:=by
  unfold OpenLaw.pre at hc
  have h4:(WTm.not (.lt (.lit (.int (n:Int))) (.len (.arg 0)))).holds [] {args:=[.list (ns.map .int)]}=true:=by
   have h4:=(holds_andW hc).1
   rw[hn]at h4
   exact h4
  have h5:=condW_of h4 (w_not (w_lt w_lit (w_len_list (w_arg rfl))))
  rw[ah]at h5
  refine Nat.le_of_not_lt λ q=>?_
  have q':(n:Int)<((ns.length:Nat):Int):=by omega
  first
   | (rw[decide_eq_true q']at h5;exact absurd h5 (by decide))
   | (simp at h5;omega)
 cases hwl with
 | cons w1 w2 =>
  cases w2
  cases w1 with
  | list ho hall=>exact⟨_,_,ns,rfl,rfl,ho,qu ns _ hall,hlen⟩
theorem uF (l:OpenLaw)(args:List WData):l.row.toRowW.claim.post args (.bool true) args=true :=
 postW_of (r:=l.row.toRowW) (X:=(true==true))
  (show WShape.has [] (.bool true) .bool=true by first | rfl | decide | simp[WShape.has,WShape.arms,WShape.armsAll])
  (show(WTm.eq .res (.lit (.bool true))).value [] {args:=args,res:=some (.bool true),after:=args}=some (.bool (true==true)) from w_eq_bool (w_res rfl) w_lit) rfl
theorem attach {l:OpenLaw}{n:Nat}{q:Program}{loose:List Str}{XP:(Str->Option Value)->Heap->Prop}{YP:World->Heap->Prop}{d:DefRec}{x:Str}
  (hn:l.most=some n) (hdf:d.params.defaults=[])
  (hbind:∀ pm cd doc v:Value,bindArgs (docDef d.name d.params d.body d.scope pm cd doc) ⟨[v],[]⟩=pure [(x,v)])
  (hx:d.scope.names.lookup x=some .local\/d.scope.names.lookup x=some .cell)
  (hk:d.scope.kind=.function) (hco:d.scope.isCoroutine=false) (hgen:d.scope.isGenerator=false)
  (body:∀ (w:World) (s₀ s₁ s:Shared) (mg mb:Str->Option Value) (fa:Addr) (o:Obj) (pm cd doc:Value) (a:Addr) (vs:List Value) (ns:List Int),
   Ground q loose [] XP w s₀ mg mb s₁.heap->YP w s₁.heap ->
   s₁.heap.get? fa=some o->o.data=.func (docDef d.name d.params d.body d.scope pm cd doc)->s₁.heap.CodeRec cd d.name->mg d.name=some (.ref fa) ->
   s₁.heap.get? a=some {cls:=.type "list",data:=.seq vs.toArray}->IntsAre vs ns->ns.length<=n ->
   s.gens=#[]->s.os=s₁.os ->
   Fr s₁.heap s₁.heap.objs.size s.heap (bindL (envOfC d.name d.scope s₁.heap.objs.size fa cd).kindOf [(x,.ref a)] λ _=>none) ->
   Cl s₁.heap.objs.size (cellsFrom (s₁.heap.objs.size+1) d.scope.names []) s.heap (bindC (envOfC d.name d.scope s₁.heap.objs.size fa cd).kindOf [(x,.ref a)] λ _=>none) ->
   wpAny (model l.prog w) (callerA.deeper (envOfC d.name d.scope s₁.heap.objs.size fa cd)) (execs d.body (envOfC d.name d.scope s₁.heap.objs.size fa cd))
    (λ f s'=>f=.ret (.bool true)/\OldK s₁.heap s'.heap/\s'.os=s₁.os/\AllBare s'.gens) (λ _ _=>False) s) :
  WalkO q loose XP YP l.row.toRowW d [] (λ f vs=>PySem.call f vs):=by
 intro w s₀ s₁ mg mb G Y fa o pm cd doc dV kV ho hd hcd hD hmg hg args vals as hpre hlay hrd hwl hlo
 obtain rfl:dV=.none:=Dflts.none hD hdf
 obtain rfl:kV=.none:=Dflts.noKw hD
 obtain⟨a,vs,ns,rfl,rfl,hobj,hints,hlen⟩:=uE hn hpre hwl
 refine enter_call ?_
 refine call_cells_ret (o:=o) (by rw[depth_caller];decide) ho (fd_plain hd) G.T.nolimit hcd (hbind pm cd doc (.ref a)) (λ y hy=>?_) (λ h₁ tk F X=>?_) hco hgen hk
 ·obtain rfl:y=(x,Value.ref a):=List.mem_singleton.mp hy
  rcases hx with e | e
  ·exact .inl e
  ·exact .inr ⟨e,cellsFrom_some _ _ _ (.inl e)⟩
 ·refine wpAny_mono (body w s₀ s₁ {s₁ with heap:=h₁,toks:=tk} mg mb fa o pm cd doc a vs ns G Y ho (fd_plain hd) hcd hmg hobj hints hlen hg rfl F X) (λ f s' hq=>?_) (λ _ _ hq=>hq)
  obtain⟨rfl,h2,h3,h4⟩:=hq
  exact⟨.inl ⟨.bool true,.bool true,[],rfl,λ _=>rfl,.bool true,uF l _,λ _=>⟨List.Pairwise.nil,λ _ hm=>(nomatch hm)⟩⟩,h2,h3,h4⟩
theorem xn {l:OpenLaw}{n:Nat}{q:Program}{loose:List Str}{XP:(Str->Option Value)->Heap->Prop}{YP:World->Heap->Prop}{d:DefRec}
  (hn:l.most=some n) (hdf:d.params.defaults=[])
  (call:∀ (w:World) (s₀ s₁:Shared) (mg mb:Str->Option Value) (fa:Addr) (o:Obj) (pm cd doc:Value) (a:Addr) (vs:List Value) (ns:List Int),
   Ground q loose [] XP w s₀ mg mb s₁.heap->YP w s₁.heap ->
   s₁.heap.get? fa=some o->o.data=.func (docDef d.name d.params d.body d.scope pm cd doc)->s₁.heap.CodeRec cd d.name->mg d.name=some (.ref fa) ->
   s₁.heap.get? a=some {cls:=.type "list",data:=.seq vs.toArray}->IntsAre vs ns->ns.length<=n->s₁.gens=#[] ->
   codeAny (model l.prog w) callerA (.call (.ref fa) ⟨[.ref a],[]⟩) (λ r s'=>r=.ok (.ret (.bool true))/\OldK s₁.heap s'.heap/\s'.os=s₁.os/\AllBare s'.gens) s₁) :
  WalkO q loose XP YP l.row.toRowW d [] (λ f vs=>PySem.call f vs):=by
 intro w s₀ s₁ mg mb G Y fa o pm cd doc dV kV ho hd hcd hD hmg hg args vals as hpre hlay hrd hwl hlo
 obtain rfl:dV=.none:=Dflts.none hD hdf
 obtain rfl:kV=.none:=Dflts.noKw hD
 obtain⟨a,vs,ns,rfl,rfl,hobj,hints,hlen⟩:=uE hn hpre hwl
 refine enter_call (codeAny_mono (call w s₀ s₁ mg mb fa o pm cd doc a vs ns G Y ho (fd_plain hd) hcd hmg hobj hints hlen hg) λ r s' hq=>?_)
 obtain⟨rfl,h2,h3,h4⟩:=hq
 exact⟨.inl ⟨.bool true,.bool true,[],rfl,λ _=>rfl,.bool true,uF l _,λ _=>⟨List.Pairwise.nil,λ _ hm=>(nomatch hm)⟩⟩,h2,h3,h4⟩
section
variable {prog:Program}{w:World}{A:Around}{E:Value->Shared->Prop}{s:Shared}{K:Frag}
noncomputable def fY (h:Heap):Heap:={h with objs:=#[]}
noncomputable def ledger (h:Heap)(L d:Addr):List (Addr×Obj):=(List.range h.objs.size).filterMap λ a=>if a=L\/a=d then none else (h.get? a).map λ o=>(a,o)
end
end Att
namespace L2
open PySem PySem.Spec PyProof.Rows
theorem uH:∀ {vs:List Value} {ns:List Int},IntsAre vs ns->Vals (ns.map V.int) vs
 | _,_,.nil=>.nil
 | _,_,.cons n t h=>.cons ⟨t,rfl⟩ (uH h)
noncomputable def IV (H:Hp):Prop:=∀ b,H b=none\/∃ o xs,H b=some (.frz o (.lst xs))
theorem DD {P:Program}{w:World}{K:PySem.W.Frag}{mg mb:Str->Option Value}{CX:CXT}{k:Nat}{fa a:Addr}{fd:FuncData}{x:Str}{sp:Sp}{s₁:Shared}{vs:List Value}{ns:List Int}
  (KX:K.In s₁.heap) (hns:s₁.heap.Ns mainGlobals mg) (hb:s₁.heap.Ns builtinsNs mb) (hbb:∀ x:Str,x≠"__name__"->mb x=bootBuiltins x) (hlim:s₁.heap.NoLimit) (hg:s₁.gens=#[])
  (ha:s₁.heap.get? a=some {cls:=.type "list",data:=.seq vs.toArray}) (hi:IntsAre vs ns) (hl:ns.length<=sizeLine) (hr:fG k callerA)
  (F:∀ base:Heap,K.In base->base.Ns mainGlobals mg->bQ P w K mg base CX k fa fd [x] sp) (hbind:∀ (s:Shared) (u:Value),BindsTo s fd ⟨[u],[]⟩ [(x,u)])
  (hsp:∀ H:Hp,IV H->SqL K H a (ns.map V.int)->sp [.ref a] H (λ v _=>v=.bl true) λ _ _ _=>False)
  (hCX:∀ H e s',CX [] H s₁ (λ _ _ _=>False) e s'->False) :
  codeAny (model P w) callerA (.call (.ref fa) ⟨[.ref a],[]⟩) (λ r s'=>r=.ok (.ret (.bool true))/\OldK s₁.heap s'.heap/\s'.os=s₁.os/\AllBare s'.gens) s₁:=by
 have rv:=uH hi
 have lenV:=hi.length
 have core:∀ H:Hp,IV H->SqL K H a (ns.map V.int)->HOk P w H s₁.heap->(∀ b,H b≠none->b=a)->(H a≠none->K.lookup a=none) ->
   codeAny (model P w) callerA (.call (.ref fa) ⟨[.ref a],[]⟩) (λ r s'=>r=.ok (.ret (.bool true))/\OldK s₁.heap s'.heap/\s'.os=s₁.os/\AllBare s'.gens) s₁:=by
  intro H hO hS hok hA hK
  have base_of:∀ {b:Addr} {o:Obj},s₁.heap.get? b=some o->H b=none->(vb s₁.heap H).get? b=some o:=λ e n=>C6 e n
  have noA:∀ {b:Addr} {o:Obj} {es:Array DictEntry} {ep:Nat},s₁.heap.get? b=some o->o.data=.dict es ep->H b=none:=λ{b o es ep} e d=>by
   cases q:H b with
   | none=>rfl
   | some u =>
    have e':b=a:=hA b (by rw[q];simp)
    subst e'
    rw[ha]at e;cases e
    have d':Data.seq vs.toArray _=Data.dict es ep:=d
    cases d'
  have nsK:∀ {b:Addr} {m:Str->Option Value},s₁.heap.Ns b m->(vb s₁.heap H).Ns b m:=λ{b m} ⟨o,es,ep,e,d,r⟩=>⟨o,es,ep,base_of e (noA e d),d,r⟩
  have hKb:K.In (vb s₁.heap H):=λ b o e=>base_of (KX b o e) (by
   cases q:H b with
   | none=>rfl
   | some u =>
    have e':b=a:=hA b (by rw[q];simp)
    subst e'
    rw[hK (by rw[q];simp)]at e;cases e)
  have hM:Mod K mg (vb s₁.heap H):=⟨hKb,nsK hns,⟨mb,nsK hb,hbb⟩,let ⟨mc,h1,h2⟩:=hlim;⟨mc,nsK h1,h2⟩⟩
  have e0:zm P w K mg (vb s₁.heap H) callerA [] s₁ H:=⟨rfl,hM,λ b o e=>FI e,Nat.le_of_eq (BQ _ _),trivial,λ b hb=>absurd (show b∈([]:List Addr) from hb) (by simp),hok,.of_eq hg⟩
  refine codeAny_mono ((F _ hKb (nsK hns)).run callerA [] s₁ H ⟨[.ref a],[]⟩ [.ref a] [.ref a] _ _ hr e0 (hbind s₁ (.ref a)) (.cons rfl .nil) (hsp H hO hS)) λ r s' h=>?_
  cases r with
  | error e=>exact(hCX H e s' h).elim
  | ok fl =>
   cases fl with
   | next=>exact False.elim h
   | brk=>exact False.elim h
   | cont=>exact False.elim h
   | ret u =>
    obtain⟨v,H',os,bare,un,hok',r',q⟩:=h
    have q':v=.bl true:=q
    subst q'
    obtain rfl:u=Value.bool true:=r'
    refine⟨rfl,OldK.of_keep λ b o e=>?_,os,bare⟩
    cases q:H b with
    | none=>exact un.keep b o e q (by intro z;exact absurd (show b∈([]:List Addr) from z) (by simp)) (by simp)
    | some u =>
     rcases hO b with z | ⟨ob,xs,z⟩
     ·rw[q]at z;cases z
     ·have z2:=un.jn b ob _ z
      obtain⟨e1,_⟩:=hok b _ z
      obtain⟨e2,_⟩:=hok' b _ z2
      rw[e]at e1;cases e1
      exact e2
 cases hk:K.lookup a with
 | some o =>
  have e:=KX a o hk
  rw[ha]at e
  cases e
  refine core (λ _=>none) (λ _=>.inl rfl) (.inr ⟨_,vs.toArray,_,hk,rfl,rfl,rfl,by rw[ax,lenV];exact hl,by simpa using rv⟩) (λ b u z=>by have z':(none:Option HO)=some u:=z;cases z') (λ b z=>absurd rfl z) λ z=>absurd rfl z
 | none =>
  refine core (λ b=>if b=a then some (.frz {cls:=.type "list",data:=.seq vs.toArray} (.lst (ns.map V.int))) else none) (λ b=>?_) (.inl (.inr ⟨{cls:=.type "list",data:=.seq vs.toArray},ae rfl⟩)) (λ b u z=>?_) (λ b z=>?_) λ _=>hk
  ·by_cases hb:b=a
   ·exact .inr ⟨_,_,ae hb⟩
   ·exact .inl (af hb)
  ·by_cases hb:b=a
   ·have z':=(ae hb).symm.trans z
    cases z'
    subst hb
    exact⟨ha,by rw[ah];exact hl,vs,_,rv,ha⟩
   ·have z':=(af hb).symm.trans z
    cases z'
  ·by_cases hb:b=a
   ·exact hb
   ·exact absurd (af hb) z
noncomputable abbrev KOf {K:PySem.W.Frag}{h:Heap}(_:K.In h):PySem.W.Frag:=K
theorem AS {l:PySem.W.OpenLaw}{n k:Nat}{q:Program}{loose:List Str}{XP:(Str->Option Value)->Heap->Prop}{YP:World->Heap->Prop}{d:DefRec}{K:Params->PySem.W.Frag}{CX:World->CXT}{sp:World->Sp}{x:Str}
  (hn:l.most=some n) (hn2:n<=sizeLine) (hdf:d.params.defaults=[]) (hr:fG k callerA)
  (hY:∀ (w:World) (h:Heap),YP w h->(K w.params).In h)
  (F:∀ (w:World) (mg:Str->Option Value) (fa:Addr) (h:Heap),(K w.params).In h->h.Ns mainGlobals mg->mg d.name=some (.ref fa) ->
   ∃ fd:FuncData,(∀ (s:Shared) (u:Value),BindsTo s fd ⟨[u],[]⟩ [(x,u)]) /\
    ∀ base:Heap,(K w.params).In base->base.Ns mainGlobals mg->bQ l.prog w (K w.params) mg base (CX w) k fa fd [x] (sp w))
  (hsp:∀ (w:World) (H:Hp) (a:Addr) (ns:List Int),ns.length<=n->IV H->SqL (K w.params) H a (ns.map V.int)->sp w [.ref a] H (λ v _=>v=.bl true) λ _ _ _=>False)
  (hCX:∀ (w:World) (H:Hp) (s:Shared) (e:Value) (s':Shared),CX w [] H s (λ _ _ _=>False) e s'->False) :
  PySem.W.WalkO q loose XP YP l.row.toRowW d [] (λ f vs=>PySem.call f vs):=by
 refine Att.xn hn hdf λ w s₀ s₁ mg mb fa o pm cd doc a vs ns G Y ho hd hcd hmg hobj hints hlen hg=>?_
 have KX:=hY w _ Y
 obtain⟨fd,hb,hF⟩:=F w mg fa _ KX G.T.g hmg
 exact DD KX G.T.g G.T.b G.T.builtins G.T.nolimit hg hobj hints (Nat.le_trans hlen hn2) hr hF hb (λ H hO hS=>hsp w H a ns hlen hO hS) λ H e s'=>hCX w H s₁ e s'
end L2
namespace L2
open PySem PySem.Spec PyProof.Rows
noncomputable def lO (s:Stmt):Arguments:=match s with
 | .FunctionDef _ a _ _ _ _ _ _ _ _=>a
 | _=>{posonlyargs:=[],args:=[],vararg:=none,kwonlyargs:=[],kw_defaults:=[],kwarg:=none,defaults:=[]}
noncomputable def iZ (s:Stmt):List Stmt:=match s with
 | .FunctionDef _ _ b _ _ _ _ _ _ _=>b
 | _=>[]
noncomputable def aX (s:Stmt):Scope:=match s with
 | .FunctionDef _ _ _ _ _ _ sc _ _ _=>sc
 | _=>{kind:=.function,names:=[],isGenerator:=false,isCoroutine:=false}
noncomputable abbrev CX0:CXT:=λ _ _ _ _ _ _=>False
noncomputable abbrev E0:XK:=λ _ _ _=>False
theorem gJ {X:Cx}:Passes CX0 X E0:=λ _ _ _ _ _ _ _ h=>h.elim
structure Fun (K:PySem.W.Frag)(x qual:Str)(st:Stmt)(f:Addr)(fd:FuncData):Prop where
 ex:∃ (oc:Value) (od:Option Addr) (kV doc pm:Value) (an:Option Addr) (cdv ct:Value) (osl:Array (Option Value)),
  fd=PySem.W.fnOf x qual (lO st) (iZ st) (aX st) .none kV doc pm an cdv ct/\K.lookup f=some ⟨oc,od,.func fd,osl⟩/\PySem.W.codeIn K cdv qual=true
 kp:PySem.W.keepIn K (.ref f)=true
section
variable {P:Program}{w:World}{K:PySem.W.Frag}{mg:Str->Option Value}{base:Heap}
theorem Fun.ok {x qual:Str}{st:Stmt}{f:Addr}{fd:FuncData}{N ps:List Str}{k:Nat}{sp:Sp}(F:Fun K x qual st f fd)(S:bj N ps (aX st))(len:∀ vs H Q E,sp vs H Q E->vs.length=ps.length)
  (hbody:∀ (cdv:Value) (A:Around) (outer:List Env) (s:Shared) (H:Hp) (vs:List V) (Q:VK) (E:XK),fG k (A.deeper (envOfC qual (aX st) s.heap.objs.size f cdv))->sp vs H Q E ->
   ∃ t,PSs (zo CX0 P w K mg base N qual (aX st) f cdv A outer s H E).nox (iZ st) t/\t {nx:=λ _ H'=>Q .non H',rt:=Q} (start N vs) H):bQ P w K mg base CX0 (k+1) f fd ps sp:=by
 obtain⟨oc,od,kV,doc,pm,an,cdv,ct,osl,rfl,lk,hcd⟩:=F.ex
 refine KG lk hcd S len λ A outer s H vs Q E hr hsp=>?_
 obtain⟨t,h,q⟩:=hbody cdv A outer s H vs Q E hr hsp
 exact⟨t,h.nox,q⟩
theorem Fun.binds {x qual:Str}{st:Stmt}{f:Addr}{fd:FuncData}{ps:List Str}(F:Fun K x qual st f fd)
  (h:∀ (kV doc pm:Value) (an:Option Addr) (cdv ct:Value) (us:List Value),us.length=ps.length->bindArgs (PySem.W.fnOf x qual (lO st) (iZ st) (aX st) .none kV doc pm an cdv ct) ⟨us,[]⟩=pure (ps.zip us)):Binds K fd ps []:=by
 obtain⟨oc,od,kV,doc,pm,an,cdv,ct,osl,rfl,lk,hcd⟩:=F.ex
 exact .all (h kV doc pm an cdv ct)
theorem zx {x qual:Str}{st:Stmt}{f:Addr}{oc:Value}{od an:Option Addr}{osl:Array (Option Value)}{kV doc pm cdv ct:Value}(l:K.lookup f=some ⟨oc,od,.func (PySem.W.fnOf x qual (lO st) (iZ st) (aX st) .none kV doc pm an cdv ct),osl⟩)
  (c:PySem.W.codeIn K cdv qual=true) (k:PySem.W.keepIn K (.ref f)=true):Fun K x qual st f (PySem.W.fnOf x qual (lO st) (iZ st) (aX st) .none kV doc pm an cdv ct):=⟨⟨oc,od,kV,doc,pm,an,cdv,ct,osl,rfl,l,c⟩,k⟩
end
theorem DF {A:Around}{k:Nat}(hr:fG k A):A.units+1<cLine:=Nat.lt_of_le_of_lt (Nat.add_le_add_left (by decide:1<=64) _) hr.units
section
variable {X:Cx}
theorem pv (i:Nat){x:Str}{pos:Pos}(hN:X.N[i]?=some x:=by rfl)(hv:Vis X.env.scope x:=by trivial)(hd:(x==("__debug__":Str))=false:=by decide)
  (hcd:(x==("__classdict__":Str))=false:=by decide):PE X (.Name x pos) (bF i):=C7 hN hv hd hcd
end
theorem IW {A B:Prop}(h:B):if false=true then A else B:=by
 rw[af aq]
 exact h
theorem DG {A B:Prop}(h:A):if true=true then A else B:=by
 rw[ae rfl]
 exact h
theorem IX {c A B:Prop}[Decidable c](h1:c->A)(h2:¬ c->B):if c then A else B:=by
 by_cases h:c
 ·rw[ae h]
  exact h1 h
 ·rw[af h]
  exact h2 h
noncomputable def a_ (H H':Hp):Prop:=∀ b o,H b=some o->H' b=some o
theorem a_.refl (H:Hp):a_ H H:=λ _ _ h=>h
theorem a_.trans {H H1 H2:Hp}(a:a_ H H1)(b:a_ H1 H2):a_ H H2:=λ c o h=>b c o (a c o h)
theorem a_.free {H H':Hp}(e:a_ H H'){l:Addr}(h:H' l=Option.none):H l=Option.none:=by
 cases q:H l with
 | none=>rfl
 | some o =>
  rw[e l o q]at h
  cases h
theorem a_.seq {K:PySem.W.Frag}{H H':Hp}{a:Addr}{xs:List V}(e:a_ H H')(h:SqL K H a xs):SqL K H' a xs:=by
 rcases h with (h | ⟨o,h⟩) | h
 ·exact .inl (.inl (e _ _ h))
 ·exact .inl (.inr ⟨o,e _ _ h⟩)
 ·exact .inr h
section
variable {κ:Type}[DecidableEq κ]
theorem vn:∀ {l:List κ} {k:κ},l.Nodup->¬ k∈l->(l++[k]).Nodup
 | [],k,_,_=>by simp
 | a::r,k,h,hk=>by
  obtain⟨h1,h2⟩:=List.nodup_cons.mp h
  show(a::(r++[k])).Nodup
  refine List.nodup_cons.mpr ⟨λ m=>?_,vn h2 λ m=>hk (ar.mpr (Or.inr m))⟩
  rcases List.mem_append.mp m with q | q
  ·exact h1 q
  ·exact hk (ar.mpr (Or.inl (List.mem_singleton.mp q).symm))
end
end L2
namespace Tb
open PySem
noncomputable def Ri (xs:Array Nat):Prop:=∀ (a b x y:Nat),a<b->xs[a]?=some x->xs[b]?=some y->x<y
noncomputable def Bel (xs:Array Nat)(j r:Nat):Prop:=r<=xs.size/\(∀ k x,k<r->xs[k]?=some x->x<j)/\(∀ k x,r<=k->xs[k]?=some x->j<=x)
theorem rS {xs:Array Nat}{j:Nat}(R:Ri xs):∀ (fuel lo hi:Nat),hi<=lo+fuel->lo<=hi->hi<=xs.size->(∀ k x,k<lo->xs[k]?=some x->x<j)->(∀ k x,hi<=k->xs[k]?=some x->j<=x)->Bel xs j (SetTable.below.go xs j fuel lo hi)
 | 0,lo,hi,h1,h2,h3,h4,h5=>by
  have e:lo=hi:=by omega
  subst e
  exact⟨h3,h4,h5⟩
 | fuel+1,lo,hi,h1,h2,h3,h4,h5=>by
  unfold SetTable.below.go
  by_cases hlt:lo<hi
  ·rw[ae hlt]
   have hm:(lo+hi) / 2<xs.size:=by omega
   obtain⟨v,hv⟩:∃ v,xs[(lo+hi) / 2]?=some v:=⟨xs[(lo+hi) / 2],by simp[hm]⟩
   have hd:xs.getD ((lo+hi) / 2) j=v:=by
    rw[Array.getD_eq_getD_getElem?,hv];rfl
   dsimp only
   rw[hd]
   by_cases hj:v<j
   ·rw[ae hj]
    refine rS R fuel _ _ (by omega) (by omega) h3 (λ k x hk e=>?_) h5
    by_cases hk':k=(lo+hi) / 2
    ·subst hk';rw[hv]at e;cases e;exact hj
    ·exact Nat.lt_trans (R k _ x v (by omega) e hv) hj
   ·rw[af hj]
    refine rS R fuel _ _ (by omega) (by omega) (by omega) h4 (λ k x hk e=>?_)
    by_cases hk':k=(lo+hi) / 2
    ·subst hk';rw[hv]at e;cases e;omega
    ·have:=R _ k v x (by omega) hv e
     omega
  ·rw[af hlt]
   have e:lo=hi:=by omega
   subst e
   exact⟨h3,h4,h5⟩
theorem rT {xs:Array Nat}(R:Ri xs)(j:Nat):Bel xs j (SetTable.below xs j) :=
 rS R xs.size 0 xs.size (by omega) (Nat.zero_le _) (ag _) (λ k x hk=>absurd hk (Nat.not_lt_zero _)) λ k x hk e=>by
  rw[Array.getElem?_eq_none hk]at e;cases e
theorem below_at {xs:Array Nat}(R:Ri xs){i j:Nat}(e:xs[i]?=some j):SetTable.below xs j=i:=by
 obtain⟨h1,h2,h3⟩:=rT R j
 rcases Nat.lt_trichotomy i (SetTable.below xs j) with h | h | h
 ·exact absurd (h2 i j h e) (Nat.lt_irrefl _)
 ·exact h.symm
 ·have hi:i<xs.size:=(Array.getElem?_eq_some_iff.mp e).1
  have hr:SetTable.below xs j<xs.size:=by omega
  have hv:xs[SetTable.below xs j]?=some xs[SetTable.below xs j]:=by simp[hr]
  have a:=R _ _ _ _ h hv e
  have b:=h3 _ _ (ag _) hv
  omega
noncomputable def Occ (t:SetTable)(j:Nat):Prop:=∃ i:Nat,t.place[i]?=some j
theorem o3 {t:SetTable}(R:Ri t.place){i j:Nat}(e:t.place[i]?=some j):t.slot j=.live i:=by
 unfold SetTable.slot
 rw[below_at R e]
 dsimp only
 rw[e]
 simp
theorem zy {t:SetTable}(hd:t.dummies=#[]){j:Nat}(e:¬ Occ t j):t.slot j=.empty:=by
 unfold SetTable.slot
 dsimp only
 rw[af,hd]
 ·have:SetTable.has #[] j=false:=by
   unfold SetTable.has
   simp
  rw[this]
  rfl
 ·intro h
  exact e ⟨_,by simpa using h⟩
noncomputable def adv (mask:Nat)(p:SetTable.Probe):SetTable.Probe :=
 if p.more>0 then {p with j:=p.j+1,more:=p.more-1} else {p with j:=(SetTable.leap mask p.i p.perturb).1,more:=SetTable.runEnd mask (SetTable.leap mask p.i p.perturb).1-(SetTable.leap mask p.i p.perturb).1,i:=(SetTable.leap mask p.i p.perturb).1,perturb:=(SetTable.leap mask p.i p.perturb).2}
theorem rV (t:SetTable)(p:SetTable.Probe):t.advance p=adv t.mask p:=by
 unfold SetTable.advance adv
 split<;>rfl
noncomputable def walk (mask:Nat)(p:SetTable.Probe):Nat->SetTable.Probe
 | 0=>p
 | n+1=>adv mask (walk mask p n)
theorem DI (mask:Nat)(p:SetTable.Probe):∀ n,walk mask (adv mask p) n=walk mask p (n+1)
 | 0=>rfl
 | n+1=>by
  show adv mask (walk mask (adv mask p) n)=adv mask (walk mask p (n+1))
  rw[DI mask p n]
theorem nh (mask:Nat)(p:SetTable.Probe)(a:Nat):∀ n,walk mask (walk mask p a) n=walk mask p (a+n)
 | 0=>rfl
 | n+1=>by
  show adv mask (walk mask (walk mask p a) n)=adv mask (walk mask p (a+n))
  rw[nh mask p a n]
noncomputable def st (mask:Nat)(h:Int):SetTable.Probe:={j:=SetTable.bits h % (mask+1),more:=SetTable.runEnd mask (SetTable.bits h % (mask+1))-SetTable.bits h % (mask+1),i:=SetTable.bits h % (mask+1),perturb:=SetTable.bits h,dummy:=none}
theorem B6 (mask:Nat)(p:SetTable.Probe):(adv mask p).dummy=p.dummy:=by
 unfold adv
 split<;>rfl
theorem rW (mask:Nat)(p:SetTable.Probe):∀ n,(walk mask p n).dummy=p.dummy
 | 0=>rfl
 | n+1=>(B6 _ _).trans (rW mask p n)
noncomputable def bdy (mask i perturb:Nat):SetTable.Probe:={j:=i,more:=SetTable.runEnd mask i-i,i:=i,perturb:=perturb,dummy:=none}
theorem B7 (mask i:Nat):SetTable.runEnd mask i-i<=9:=by
 unfold SetTable.runEnd
 split<;>omega
theorem zA (mask i perturb:Nat):∀ k,k<=SetTable.runEnd mask i-i->walk mask (bdy mask i perturb) k={j:=i+k,more:=SetTable.runEnd mask i-i-k,i:=i,perturb:=perturb,dummy:=none}
 | 0,_=>rfl
 | k+1,h=>by
  show adv mask (walk mask (bdy mask i perturb) k)=_
  rw[zA mask i perturb k (by omega)]
  unfold adv
  rw[ae (by show SetTable.runEnd mask i-i-k>0;omega)]
  show SetTable.Probe.mk (i+k+1) (SetTable.runEnd mask i-i-k-1) i perturb none=SetTable.Probe.mk (i+(k+1)) (SetTable.runEnd mask i-i-(k+1)) i perturb none
  congr 1
theorem xo (mask i perturb:Nat):walk mask (bdy mask i perturb) (SetTable.runEnd mask i-i+1)=bdy mask (SetTable.leap mask i perturb).1 (SetTable.leap mask i perturb).2:=by
 show adv mask (walk mask (bdy mask i perturb) (SetTable.runEnd mask i-i))=_
 rw[zA mask i perturb _ (ag _)]
 unfold adv
 rw[af (by show ¬ SetTable.runEnd mask i-i-(SetTable.runEnd mask i-i)>0;omega)]
 rfl
noncomputable def lp (mask:Nat)(i perturb:Nat):Nat->Nat×Nat
 | 0=>(i,perturb)
 | n+1=>SetTable.leap mask (lp mask i perturb n).1 (lp mask i perturb n).2
theorem AU (mask i perturb:Nat):∀ L,∃ n,n<=10*L/\walk mask (bdy mask i perturb) n=bdy mask (lp mask i perturb L).1 (lp mask i perturb L).2
 | 0=>⟨0,ag _,rfl⟩
 | L+1=>by
  obtain⟨n,hn,e⟩:=AU mask i perturb L
  refine⟨n+(SetTable.runEnd mask (lp mask i perturb L).1-(lp mask i perturb L).1+1),?_,?_⟩
  ·have:=B7 mask (lp mask i perturb L).1
   omega
  ·rw[<-nh,e]
   exact xo _ _ _
theorem AV (mask i perturb:Nat):∀ L,(lp mask i perturb L).2=perturb / 32 ^ L
 | 0=>by simp[lp]
 | L+1=>by
  show(lp mask i perturb L).2 / 32=_
  rw[AV mask i perturb L,Nat.div_div_eq_div_mul,Nat.pow_succ]
theorem zB (mask i perturb a:Nat):∀ L,lp mask i perturb (a+L)=lp mask (lp mask i perturb a).1 (lp mask i perturb a).2 L
 | 0=>rfl
 | L+1=>by
  show SetTable.leap mask (lp mask i perturb (a+L)).1 (lp mask i perturb (a+L)).2=_
  rw[zB mask i perturb a L]
  rfl
noncomputable def lc (mask:Nat):Nat->Nat
 | 0=>0
 | n+1=>(lc mask n*5+1) % (mask+1)
noncomputable def Mk (mask:Nat):Prop:=mask=7\/mask=31\/mask=127
theorem FZ:∀ j,j<8->∃ k,k<8/\lc 7 k=j:=by decide +kernel
theorem DJ:∀ j,j<32->∃ k,k<32/\lc 31 k=j:=by decide +kernel
theorem B8:∀ j,j<128->∃ k,k<128/\lc 127 k=j:=by decide +kernel
theorem F0:lc 7 8=0/\lc 31 32=0/\lc 127 128=0:=by decide +kernel
theorem DK {mask:Nat}(m:Mk mask){j:Nat}(h:j<=mask):∃ k,k<=mask/\lc mask k=j:=by
 rcases m with rfl | rfl | rfl
 ·obtain⟨k,h1,h2⟩:=FZ j (by omega);exact⟨k,by omega,h2⟩
 ·obtain⟨k,h1,h2⟩:=DJ j (by omega);exact⟨k,by omega,h2⟩
 ·obtain⟨k,h1,h2⟩:=B8 j (by omega);exact⟨k,by omega,h2⟩
theorem DL {mask:Nat}(m:Mk mask):∀ n,lc mask (mask+1+n)=lc mask n
 | 0=>by
  have:=F0
  rcases m with rfl | rfl | rfl
  ·exact this.1
  ·exact this.2.1
  ·exact this.2.2
 | n+1=>by
  show(lc mask (mask+1+n)*5+1) % (mask+1)=(lc mask n*5+1) % (mask+1)
  rw[DL m n]
theorem Hz {mask:Nat}(a:Nat):∀ L,(lp mask (lc mask a) 0 L).1=lc mask (a+L)/\(lp mask (lc mask a) 0 L).2=0
 | 0=>⟨rfl,rfl⟩
 | L+1=>by
  obtain⟨h1,h2⟩:=Hz (mask:=mask) a L
  refine⟨?_,?_⟩
  ·show((lp mask (lc mask a) 0 L).1*5+1+(lp mask (lc mask a) 0 L).2 / 32) % (mask+1)=(lc mask (a+L)*5+1) % (mask+1)
   rw[h1,h2]
  ·show(lp mask (lc mask a) 0 L).2 / 32=0
   rw[h2]
theorem F3 (h:Int):SetTable.bits h<2 ^ 64:=by
 unfold SetTable.bits
 have h1:=Int.emod_nonneg h (show(2 ^ 64:Int)≠0 by decide)
 have h2:=Int.emod_lt_of_pos h (show(0:Int)<2 ^ 64 by decide)
 omega
theorem DM {mask:Nat}(m:Mk mask)(i:Nat)(hi:i<=mask)(h:Int){j:Nat}(hj:j<=mask):∃ L,L<SetTable.turns mask/\(lp mask i (SetTable.bits h) L).1=j:=by
 have hp:(lp mask i (SetTable.bits h) 13).2=0:=by
  rw[AV]
  have:=F3 h
  exact Nat.div_eq_of_lt (aB this (by decide))
 have hlt:∀ L,(lp mask i (SetTable.bits h) (L+1)).1<=mask:=λ L=>by
  show((lp mask i (SetTable.bits h) L).1*5+1+(lp mask i (SetTable.bits h) L).2 / 32) % (mask+1)<=mask
  exact Nat.le_of_lt_succ (Nat.mod_lt _ (Nat.succ_pos _))
 obtain⟨a,ha,ea⟩:=DK m (hlt 12)
 obtain⟨b,hb,eb⟩:=DK m hj
 obtain⟨L,hL,eL⟩:∃ L,L<=mask/\lc mask (a+L)=j:=by
  by_cases hab:a<=b
  ·exact⟨b-a,by omega,by rw[show a+(b-a)=b by omega];exact eb⟩
  ·refine⟨mask+1+b-a,by omega,?_⟩
   rw[show a+(mask+1+b-a)=mask+1+b by omega,DL m];exact eb
 refine⟨13+L,by unfold SetTable.turns;omega,?_⟩
 rw[zB,hp,<-ea]
 rw[(Hz a L).1];exact eL
noncomputable def Reach (mask:Nat)(h:Int)(occ:Nat->Prop)(j:Nat):Prop:=∃ n,(walk mask (st mask h) n).j=j/\∀ m,m<n->occ (walk mask (st mask h) m).j
theorem Reach.mono {mask:Nat}{h:Int}{occ occ':Nat->Prop}{j:Nat}(r:Reach mask h occ j)(k:∀ x,occ x->occ' x):Reach mask h occ' j :=
 let ⟨n,e,a⟩:=r
 ⟨n,e,λ m hm=>k _ (a m hm)⟩
structure TOk (t:SetTable)(hs:List Int):Prop where
 m:Mk t.mask
 d:t.dummies=#[]
 ri:Ri t.place
 le:∀ (i j:Nat),t.place[i]?=some j->j<=t.mask
 sz:t.place.size=hs.length
 ro:t.place.size<=t.mask
 rc:∀ (i j:Nat) (h:Int),t.place[i]?=some j->hs[i]?=some h->Reach t.mask h (Occ t) j
theorem bits_le (mask:Nat)(h:Int):SetTable.bits h % (mask+1)<=mask:=Nat.le_of_lt_succ (Nat.mod_lt _ (Nat.succ_pos _))
theorem rX {α:Type}[BEq α][LawfulBEq α]:∀ (l l':List α),l.Nodup->(∀ x,x∈l->x∈l')->l.length<=l'.length
 | [],l',_,_=>Nat.zero_le _
 | a::r,l',hn,hs=>by
  obtain⟨h1,h2⟩:=List.nodup_cons.mp hn
  have ha:=hs a ai
  have:=rX r (l'.erase a) h2 λ x hx=>(List.mem_erase_of_ne (show x≠a from λ e=>h1 (e▸hx))).mpr (hs x (ak _ hx))
  rw[List.length_erase_of_mem ha]at this
  have hpos:0<l'.length:=List.length_pos_of_mem ha
  rw[List.length_cons]
  omega
theorem B9 {xs:Array Nat}{mask:Nat}(R:Ri xs)(hs:xs.size<=mask):∃ j,j<=mask/\¬ ∃ i:Nat,xs[i]?=some j:=by
 refine aJ λ hn=>?_
 have all:∀ j,j<=mask->j∈xs.toList:=λ j hj=>by
  refine aJ λ hm=>hn ⟨j,hj,λ⟨i,e⟩=>hm ?_⟩
  rw[<-Array.getElem?_toList]at e
  exact List.mem_of_getElem? e
 have:=rX (List.range (mask+1)) xs.toList List.nodup_range λ j hj=>all j (Nat.le_of_lt_succ (ay.mp hj))
 simp at this
 omega
theorem F4 {t:SetTable}{hs:List Int}(T:TOk t hs)(h:Int):∃ e,e<10*SetTable.turns t.mask/\¬ Occ t (walk t.mask (st t.mask h) e).j:=by
 obtain⟨j,hj,hn⟩:=B9 T.ri T.ro
 obtain⟨L,hL,e⟩:=DM T.m _ (bits_le t.mask h) h hj
 obtain⟨n,hn',e2⟩:=AU t.mask (SetTable.bits h % (t.mask+1)) (SetTable.bits h) L
 refine⟨n,by omega,?_⟩
 have e3:(walk t.mask (st t.mask h) n).j=j:=by
  have:walk t.mask (st t.mask h) n=_:=e2
  rw[this];exact e
 rw[e3];exact hn
theorem least {P:Nat->Prop}{e:Nat}(h:P e):∃ n,n<=e/\P n/\∀ m,m<n->¬ P m:=by
 induction e using Nat.strongRecOn with
 | ind e ih =>
  by_cases q:∃ m,m<e/\P m
  ·obtain⟨m,hm,pm⟩:=q
   obtain⟨n,a,b,c⟩:=ih m hm pm
   exact⟨n,by omega,b,c⟩
  ·exact⟨e,ag _,h,λ m hm pm=>q ⟨m,hm,pm⟩⟩
theorem B_ {t:SetTable}{hs:List Int}(T:TOk t hs)(h:Int):∃ e,e<10*SetTable.turns t.mask/\¬ Occ t (walk t.mask (st t.mask h) e).j/\∀ m,m<e->Occ t (walk t.mask (st t.mask h) m).j:=by
 obtain⟨e,he,hn⟩:=F4 T h
 obtain⟨n,h1,h2,h3⟩:=least (P:=λ n=>¬ Occ t (walk t.mask (st t.mask h) n).j) hn
 exact⟨n,by omega,h2,λ m hm=>aJ (h3 m hm)⟩
theorem xp {t:SetTable}{hs:List Int}(T:TOk t hs){hashAt:Nat->Int}{h:Int}{e:Nat}(he:¬ Occ t (walk t.mask (st t.mask h) e).j)(hb:∀ m,m<e->Occ t (walk t.mask (st t.mask h) m).j) :
  ∀ (fuel n:Nat),n<=e->e<n+fuel->SetTable.probe.go t hashAt h fuel (walk t.mask (st t.mask h) n)=some (.empty (walk t.mask (st t.mask h) e).j none)/\(∀ m,n<=m->m<e->∀ i:Nat,t.place[i]?=some (walk t.mask (st t.mask h) m).j->hashAt i≠h) \/
   ∃ m i:Nat,n<=m/\m<e/\t.place[i]?=some (walk t.mask (st t.mask h) m).j/\hashAt i=h/\(∀ m',n<=m'->m'<m->∀ i:Nat,t.place[i]?=some (walk t.mask (st t.mask h) m').j->hashAt i≠h) /\
    SetTable.probe.go t hashAt h fuel (walk t.mask (st t.mask h) n)=some (.candidate (walk t.mask (st t.mask h) m).j i (walk t.mask (st t.mask h) (m+1)))
 | 0,n,h1,h2=>by omega
 | fuel+1,n,h1,h2=>by
  by_cases q:n=e
  ·subst q
   refine .inl ⟨?_,λ m a b=>by omega⟩
   unfold SetTable.probe.go
   rw[zy T.d he]
   dsimp only
   rw[rW]
   rfl
  ·obtain⟨i,hi⟩:=hb n (by omega)
   by_cases hh:hashAt i=h
   ·refine .inr ⟨n,i,ag _,by omega,hi,hh,λ m' a b=>by omega,?_⟩
    unfold SetTable.probe.go
    rw[o3 T.ri hi]
    dsimp only
    rw[ae (by simpa using hh),rV]
    rfl
   ·have stp:SetTable.probe.go t hashAt h (fuel+1) (walk t.mask (st t.mask h) n)=SetTable.probe.go t hashAt h fuel (walk t.mask (st t.mask h) (n+1)):=by
     rw[SetTable.probe.go]
     rw[o3 T.ri hi]
     dsimp only
     rw[af (by simpa using hh),rV]
     rfl
    have skip:∀ m',n<=m'->¬ n+1<=m'->∀ i:Nat,t.place[i]?=some (walk t.mask (st t.mask h) m').j->hashAt i≠h:=λ m' a b i' e'=>by
     have:m'=n:=by omega
     subst this
     have:i'=i:=(below_at T.ri e').symm.trans (below_at T.ri hi)
     rw[this];exact hh
    rcases xp T he hb fuel (n+1) (by omega) (by omega) with⟨a,b⟩ | ⟨m,i',a1,a2,a3,a4,a5,a6⟩
    ·refine .inl ⟨stp.trans a,λ m hm1 hm2=>?_⟩
     by_cases hm:n+1<=m
     ·exact b m hm hm2
     ·exact skip m hm1 hm
    ·refine .inr ⟨m,i',by omega,a2,a3,a4,λ m' hm1 hm2=>?_,stp.trans a6⟩
     by_cases hm:n+1<=m'
     ·exact a5 m' hm hm2
     ·exact skip m' hm1 hm
theorem vh {α:Type}(xs:Array α)(p:Nat)(x:α)(hp:p<=xs.size)(k:Nat):(SetTable.insertAt xs p x)[k]?=if k<p then xs[k]? else if k=p then some x else xs[k-1]?:=by
 rw[<-Array.getElem?_toList,SetTable.toList_insertAt,<-Array.getElem?_toList,<-Array.getElem?_toList]
 have hl:(xs.toList.take p).length=p:=by rw[List.length_take];simp;omega
 by_cases h1:k<p
 ·rw[ae h1,List.getElem?_append_left (by omega),List.getElem?_take_of_lt h1]
 ·rw[af h1,List.getElem?_append_right (by omega),hl]
  by_cases h2:k=p
  ·rw[ae h2,h2,Nat.sub_self];rfl
  ·rw[af h2]
   obtain⟨c,hc⟩:∃ c,k-p=c+1:=⟨k-p-1,by omega⟩
   rw[hc,List.getElem?_cons_succ,List.getElem?_drop]
   congr 1
   omega
theorem nu {α:Type}(xs:Array α)(p:Nat)(x:α):(SetTable.insertAt xs p x).size=xs.size+1:=by
 have:=(SetTable.insertAt_perm xs p x).length_eq
 simpa using this
theorem IY {t:SetTable}{hs:List Int}(T:TOk t hs){h:Int}{e:Nat}(he:¬ Occ t (walk t.mask (st t.mask h) e).j)(hb:∀ m,m<e->Occ t (walk t.mask (st t.mask h) m).j)(hj:(walk t.mask (st t.mask h) e).j<=t.mask)(hr:t.place.size+1<=t.mask){led plain:Bool} :
  TOk {(t.put (walk t.mask (st t.mask h) e).j).1 with plain:=plain} ((SetTable.insertAt hs.toArray (SetTable.below t.place (walk t.mask (st t.mask h) e).j) h).toList):=by
 generalize hjj:(walk t.mask (st t.mask h) e).j=j at *
 obtain⟨b1,b2,b3⟩:=rT T.ri j
 generalize hp:SetTable.below t.place j=p at *
 have pl:((t.put j).1).place=SetTable.insertAt t.place p j:=by rw[<-hp];rfl
 have dm:((t.put j).1).dummies=#[]:=by
  show(if SetTable.has t.dummies j then _ else _)=_
  rw[af,T.d]
  rw[T.d]
  simp[SetTable.has]
 have get:=vh t.place p j b1
 have old:∀ x,Occ t x->Occ {(t.put j).1 with plain:=plain} x:=λ x ⟨i,hi⟩=>by
  by_cases hip:i<p
  ·exact⟨i,by show(t.put j).1.place[i]?=_;rw[pl,get,ae hip];exact hi⟩
  ·refine⟨i+1,?_⟩
   show(t.put j).1.place[i+1]?=_
   rw[pl,get,af (by omega),af (by omega)]
   exact hi
 have gh:=vh hs.toArray p h (by rw[ax,<-T.sz];exact b1)
 refine⟨T.m,dm,?_,λ i x hx=>?_,?_,?_,λ i x h' hx hh=>?_⟩
 ·intro a b x y hab hx hy
  have hx:(t.put j).1.place[a]?=some x:=hx
  have hy:(t.put j).1.place[b]?=some y:=hy
  rw[pl,get]at hx hy
  by_cases ha:a<p
  ·rw[ae ha]at hx
   by_cases hb':b<p
   ·rw[ae hb']at hy;exact T.ri a b x y hab hx hy
   ·rw[af hb']at hy
    by_cases hb2:b=p
    ·rw[ae hb2]at hy;cases hy;exact b2 a x ha hx
    ·rw[af hb2]at hy;exact T.ri a (b-1) x y (by omega) hx hy
  ·rw[af ha]at hx
   rw[af (by omega),af (by omega)]at hy
   by_cases ha2:a=p
   ·rw[ae ha2]at hx;cases hx
    have:=b3 (b-1) y (by omega) hy
    rcases Nat.lt_or_eq_of_le this with q | q
    ·exact q
    ·exact absurd ⟨b-1,by rw[q];exact hy⟩ he
   ·rw[af ha2]at hx
    exact T.ri (a-1) (b-1) x y (by omega) hx hy
 ·have hx:(t.put j).1.place[i]?=some x:=hx
  rw[pl,get]at hx
  show x<=t.mask
  by_cases h1:i<p
  ·rw[ae h1]at hx;exact T.le i x hx
  ·rw[af h1]at hx
   by_cases h2:i=p
   ·rw[ae h2]at hx;cases hx;exact hj
   ·rw[af h2]at hx;exact T.le _ x hx
 ·show(t.put j).1.place.size=_
  rw[pl,nu,Array.length_toList,nu,T.sz]
  simp
 ·show(t.put j).1.place.size<=t.mask
  rw[pl,nu];exact hr
 ·have hx:(t.put j).1.place[i]?=some x:=hx
  rw[Array.getElem?_toList,gh]at hh
  rw[pl,get]at hx
  show Reach t.mask h' _ x
  by_cases h1:i<p
  ·rw[ae h1]at hx hh
   exact(T.rc i x h' hx (by simpa using hh)).mono old
  ·rw[af h1]at hx hh
   by_cases h2:i=p
   ·rw[ae h2]at hx hh
    cases hx;cases hh
    exact⟨e,hjj,λ m hm=>old _ (hb m hm)⟩
   ·rw[af h2]at hx hh
    exact(T.rc (i-1) x h' hx (by simpa using hh)).mono old
noncomputable def qv (owner:Array (Option Nat))(x:Nat):Prop:=∃ i:Nat,owner[x]?=some (some i)
theorem getD_none {owner:Array (Option Nat)}{x:Nat}(hx:x<owner.size):(owner.getD x (some 0)).isNone=true↔¬ qv owner x:=by
 rw[Array.getD_eq_getD_getElem?]
 have e:owner[x]?=some owner[x]:=by simp[hx]
 rw[e,Option.getD_some]
 unfold qv
 rw[e]
 cases owner[x] with
 | none=>simp
 | some i=>simp
theorem kT {mask i:Nat}(hi:i<=mask):SetTable.runEnd mask i<=mask/\i<=SetTable.runEnd mask i:=by
 unfold SetTable.runEnd
 split<;>omega
theorem AW {mask:Nat}{owner:Array (Option Nat)}(hsz:owner.size=mask+1){h:Int}:∀ (fuel i perturb n0:Nat),walk mask (st mask h) n0=bdy mask i perturb->i<=mask->(∀ m,m<n0->qv owner (walk mask (st mask h) m).j) ->
  (∃ L,L<fuel/\¬ qv owner (lp mask i perturb L).1)->∃ j,SetTable.layClean.free mask owner fuel i perturb=some j/\¬ qv owner j/\j<=mask/\Reach mask h (qv owner) j
 | 0,i,perturb,n0,_,_,_,⟨L,hL,_⟩=>absurd hL (Nat.not_lt_zero _)
 | fuel+1,i,perturb,n0,hw,hi,hb,⟨L,hL,hl⟩=>by
  obtain⟨r1,r2⟩:=kT hi
  have at_k:∀ k,k<=SetTable.runEnd mask i-i->(walk mask (st mask h) (n0+k)).j=i+k:=λ k hk=>by
   rw[<-nh,hw,zA mask i perturb k hk]
  unfold SetTable.layClean.free
  cases q:(List.range (SetTable.runEnd mask i+1-i)).find? λ k=>(owner.getD (i+k) (some 0)).isNone with
  | some k =>
   obtain⟨q1,q2,q3⟩:=List.find?_range_eq_some.mp q
   have q2:=ay.mp q2
   refine⟨i+k,rfl,(getD_none (by omega)).mp q1,by omega,n0+k,at_k k (by omega),λ m hm=>?_⟩
   by_cases h1:m<n0
   ·exact hb m h1
   ·obtain⟨c,rfl⟩:∃ c,m=n0+c:=⟨m-n0,by omega⟩
    rw[at_k c (by omega)]
    refine aJ λ hn=>?_
    have:=q3 c (by omega)
    rw[(getD_none (by omega)).mpr hn]at this
    simp at this
  | none =>
   have all:=List.find?_range_eq_none.mp q
   have occ:∀ k,k<=SetTable.runEnd mask i-i->qv owner (i+k):=λ k hk=>by
    refine aJ λ hn=>?_
    have:=all k (by omega)
    rw[(getD_none (by omega)).mpr hn]at this
    simp at this
   dsimp only
   refine AW hsz fuel _ _ (n0+(SetTable.runEnd mask i-i+1)) ?_ ?_ (λ m hm=>?_) ?_
   ·rw[<-nh,hw,xo]
   ·exact Nat.le_of_lt_succ (Nat.mod_lt _ (Nat.succ_pos _))
   ·by_cases h1:m<n0
    ·exact hb m h1
    ·obtain⟨c,rfl⟩:∃ c,m=n0+c:=⟨m-n0,by omega⟩
     rw[at_k c (by omega)]
     exact occ c (by omega)
   ·cases L with
    | zero=>exact absurd (occ 0 (Nat.zero_le _)) hl
    | succ L =>
     refine⟨L,by omega,?_⟩
     have e:=zB mask i perturb 1 L
     rw[Nat.add_comm 1 L]at e
     rw[e]at hl
     exact hl
structure zC (mask:Nat)(hs:List Int)(k:Nat)(owner:Array (Option Nat)):Prop where
 sz:owner.size=mask+1
 lt:∀ (j i:Nat),owner[j]?=some (some i)->i<k
 one:∀ (i:Nat),i<k->∃ j:Nat,owner[j]?=some (some i)
 inj:∀ (j j' i:Nat),owner[j]?=some (some i)->owner[j']?=some (some i)->j=j'
 rc:∀ (j i:Nat) (h:Int),owner[j]?=some (some i)->hs[i]?=some h->Reach mask h (qv owner) j
theorem zC.room {mask:Nat}{hs:List Int}{k:Nat}{owner:Array (Option Nat)}(O:zC mask hs k owner)(hk:k<=mask):∃ j,j<=mask/\¬ qv owner j:=by
 refine aJ λ hn=>?_
 have all:∀ j,j<=mask->qv owner j:=λ j hj=>aJ λ h=>hn ⟨j,hj,h⟩
 let f:Nat->Nat:=λ j=>((owner[j]?).getD none).getD 0
 have hf:∀ j,j<=mask->owner[j]?=some (some (f j)):=λ j hj=>by
  obtain⟨i,e⟩:=all j hj
  show owner[j]?=some (some (((owner[j]?).getD none).getD 0))
  rw[e];rfl
 have nd:((List.range (mask+1)).map f).Nodup:=by
  rw[List.nodup_iff_pairwise_ne,List.pairwise_map]
  refine(List.nodup_iff_pairwise_ne.mp List.nodup_range).imp_of_mem λ{a b} ha hb ne e=>ne ?_
  have ha:=hf a (Nat.le_of_lt_succ (ay.mp ha))
  have hb:=hf b (Nat.le_of_lt_succ (ay.mp hb))
  rw[e]at ha
  exact O.inj a b _ ha hb
 have:=rX _ (List.range k) nd λ x hx=>by
  obtain⟨j,hj,e⟩:=aA.mp hx
  rw[<-e]
  exact ay.mpr (O.lt j _ (hf j (Nat.le_of_lt_succ (ay.mp hj))))
 simp at this
 omega
set_option tactic.hygienic true in
theorem xq {mask:Nat}(m:Mk mask)(hs:List Int)(hn:hs.length<=mask):∀ (rest pre:List Int) (owner:Array (Option Nat)),hs=pre++rest->zC mask hs pre.length owner ->
  ∃ owner',(rest.foldl (λ(acc:Option (Array (Option Nat)×Nat)) h=>do
   let (owner,k)<-acc
   let j<-SetTable.layClean.free mask owner (SetTable.turns mask) (SetTable.bits h % (mask+1)) (SetTable.bits h)
   pure (owner.setIfInBounds j (some k),k+1)) (some (owner,pre.length)))=some (owner',hs.length)/\zC mask hs hs.length owner'
 | [],pre,owner,e,O=>by
  rw[List.append_nil]at e
  subst e
  exact⟨owner,rfl,O⟩
 | h::rest,pre,owner,e,O=>by
  have hl:pre.length<hs.length:=by rw[e];simp
  obtain⟨j0,hj0,hn0⟩:=O.room (by omega)
  obtain⟨L,hL,eL⟩:=DM m _ (bits_le mask h) h hj0
  obtain⟨j,hf,nj,hj,rj⟩:=AW O.sz (h:=h) (SetTable.turns mask) _ _ 0 rfl (bits_le mask h) (λ m hm=>absurd hm (Nat.not_lt_zero _)) ⟨L,hL,by rw[eL];exact hn0⟩
  have hjs:j<owner.size:=by rw[O.sz];omega
  have get:∀ x:Nat,(owner.setIfInBounds j (some pre.length))[x]?=if j=x then some (some pre.length) else owner[x]?:=λ x=>by
   rw[Array.getElem?_setIfInBounds]
   by_cases q:j=x
   ·subst q;simp[hjs]
   ·simp[q]
  have mono:∀ x,qv owner x->qv (owner.setIfInBounds j (some pre.length)) x:=λ x ⟨i,hx⟩=>by
   by_cases q:j=x
   ·exact⟨_,by rw[get,ae q]⟩
   ·exact⟨i,by rw[get,af q];exact hx⟩
  have O':zC mask hs (pre++[h]).length (owner.setIfInBounds j (some pre.length)):=by
   rw[List.length_append,List.length_singleton]
   refine⟨by rw[Array.size_setIfInBounds];exact O.sz,λ x i hx=>?_,λ i hi=>?_,λ x y i hx hy=>?_,λ x i h' hx hh=>?_⟩
   ·rw[get]at hx
    split at hx
    ·cases hx;omega
    ·have:=O.lt x i hx;omega
   ·by_cases q:i=pre.length
    ·exact⟨j,by rw[get,ae rfl,q]⟩
    ·obtain⟨x,hx⟩:=O.one i (by omega)
     exact⟨x,by rw[get,af (λ z=>nj ⟨i,by rw[z];exact hx⟩)];exact hx⟩
   ·rw[get]at hx hy
    split at hx
    ·cases hx
     split at hy
     ·omega
     ·exact absurd (O.lt y _ hy) (Nat.lt_irrefl _)
    ·split at hy
     ·cases hy;exact absurd (O.lt x _ hx) (Nat.lt_irrefl _)
     ·exact O.inj x y i hx hy
   ·rw[get]at hx
    split at hx
    ·rename_i q
     cases hx
     subst q
     have:h'=h:=by
      rw[e,List.getElem?_append_right (ag _),Nat.sub_self]at hh
      simpa using hh.symm
     subst this
     exact rj.mono mono
    ·exact(O.rc x i h' hx hh).mono mono
  obtain⟨owner',e',O''⟩:=xq m hs hn rest (pre++[h]) _ (by rw[e,List.append_assoc];rfl) O'
  refine⟨owner',?_,O''⟩
  rw[List.foldl_cons,<-e']
  congr 1
  show(do let j<-SetTable.layClean.free mask owner (SetTable.turns mask) (SetTable.bits h % (mask+1)) (SetTable.bits h);pure (owner.setIfInBounds j (some pre.length),pre.length+1))=_
  rw[hf,List.length_append,List.length_singleton]
  rfl
theorem IZ {mask:Nat}(m:Mk mask)(hs:List Int)(hn:hs.length<=mask):∃ owner,SetTable.layClean mask hs.toArray=some owner/\zC mask hs hs.length owner:=by
 have O0:zC mask hs ([]:List Int).length (Array.replicate (mask+1) none):=by
  have no:∀ (x i:Nat),¬ (Array.replicate (mask+1) (none:Option Nat))[x]?=some (some i):=λ x i h=>by
   rw[Array.getElem?_replicate]at h
   split at h<;>cases h
  exact⟨by simp,λ x i h=>(no x i h).elim,λ i hi=>absurd hi (Nat.not_lt_zero _),λ x y i h=>(no x i h).elim,λ x i h' h=>(no x i h).elim⟩
 obtain⟨owner,e,O⟩:=xq m hs hn hs [] _ rfl O0
 refine⟨owner,?_,O⟩
 unfold SetTable.layClean
 rw[List.foldl_toArray]
 have e:hs.foldl _ (some (Array.replicate (mask+1) none,0))=some (owner,hs.length):=e
 rw[e]
 rfl
theorem zD {α:Type}(hs:List α)(d:α):∀ (l:List Nat),(∀ i∈l,i<hs.length)->l.filterMap (λ i=>hs[i]?)=l.map λ i=>hs.getD i d
 | [],_=>rfl
 | i::r,h=>by
  have hi:=h i ai
  rw[List.map_cons,<-zD hs d r λ x hx=>h x (ak _ hx),List.filterMap_cons]
  have e:hs[i]?=some (hs.getD i d):=by
   rw[aD]
   simp[hi]
  rw[e]
theorem rY (owner:Array (Option Nat)):∀ (l:List Nat),(l.filterMap λ j=>(owner.getD j none).map (j,·)).map (·.1)=l.filter λ j=>(owner.getD j none).isSome
 | []=>rfl
 | j::r=>by
  rw[List.filterMap_cons,List.filter_cons]
  cases e:owner.getD j none with
  | none=>simpa using rY owner r
  | some i=>simpa using rY owner r
theorem F5 {mask:Nat}(m:Mk mask)(hs:List Int)(hn:hs.length<=mask)(finger moves:Nat)(led plain:Bool):∃ t order,SetTable.laid mask finger moves led plain hs.toArray=some (t,order)/\t.mask=mask/\t.led=led/\t.plain=plain /\
  List.Perm order.toList (List.range hs.length)/\TOk t (order.toList.filterMap λ i=>hs[i]?):=by
 obtain⟨owner,e,O⟩:=IZ m hs hn
 let live:=(List.range (mask+1)).filterMap λ j=>(owner.getD j none).map (j,·)
 have mem:∀ j i,(j,i)∈live↔j<=mask/\owner[j]?=some (some i):=λ j i=>by
  show(j,i)∈(List.range (mask+1)).filterMap _↔_
  rw[List.mem_filterMap]
  have gd:∀ (x y:Nat),owner.getD x none=some y↔owner[x]?=some (some y):=λ x y=>by
   rw[Array.getD_eq_getD_getElem?]
   cases owner[x]? with
   | none=>simp
   | some v=>simp
  refine⟨λ⟨a,ha,q⟩=>?_,λ⟨h1,h2⟩=>⟨j,ay.mpr (by omega),by rw[(gd j i).mpr h2];rfl⟩⟩
  cases w:owner.getD a none with
  | none=>rw[w]at q;cases q
  | some y =>
   rw[w]at q
   have q:(a,y)=(j,i):=ao q
   cases q
   exact⟨Nat.le_of_lt_succ (ay.mp ha),(gd _ _).mp w⟩
 have fst:live.map (·.1)=(List.range (mask+1)).filter λ j=>(owner.getD j none).isSome:=rY owner _
 have pw:(live.map (·.1)).Pairwise (·<·):=by rw[fst];exact List.Pairwise.filter _ List.pairwise_lt_range
 have pw2:live.Pairwise λ a b=>a.1<b.1:=List.pairwise_map.mp pw
 have nd:(live.map (·.2)).Nodup:=by
  rw[List.nodup_iff_pairwise_ne,List.pairwise_map]
  refine pw2.imp_of_mem λ{a b} ha hb hlt e=>?_
  have h1:=((mem a.1 a.2).mp ha).2
  have h2:=((mem b.1 b.2).mp hb).2
  rw[e]at h1
  have:=O.inj _ _ _ h1 h2
  omega
 have perm:List.Perm (live.map (·.2)) (List.range hs.length):=by
  refine(List.perm_ext_iff_of_nodup nd List.nodup_range).mpr λ i=>?_
  rw[aA,ay]
  refine⟨λ⟨a,ha,q⟩=>q▸O.lt _ _ ((mem a.1 a.2).mp ha).2,λ hi=>?_⟩
  obtain⟨j,hj⟩:=O.one i hi
  have:j<owner.size:=(Array.getElem?_eq_some_iff.mp hj).1
  exact⟨(j,i),(mem j i).mpr ⟨by rw[O.sz]at this;omega,hj⟩,rfl⟩
 have hlen:live.length=hs.length:=by
  have:=perm.length_eq
  simpa using this
 refine⟨{mask,place:=(live.map (·.1)).toArray,dummies:=#[],finger,led,moves,plain},(live.map (·.2)).toArray,?_,rfl,rfl,rfl,perm,⟨m,rfl,?_,?_,?_,?_,?_⟩⟩
 ·unfold SetTable.laid
  rw[e]
  rfl
 ·intro a b x y hab hx hy
  have hx:(live.map (·.1))[a]?=some x:=by simpa using hx
  have hy:(live.map (·.1))[b]?=some y:=by simpa using hy
  obtain⟨l1,e1⟩:=List.getElem?_eq_some_iff.mp hx
  obtain⟨l2,e2⟩:=List.getElem?_eq_some_iff.mp hy
  have:=List.pairwise_iff_getElem.mp pw a b l1 l2 hab
  rw[e1,e2]at this
  exact this
 ·intro i j hx
  have hx:(live.map (·.1))[i]?=some j:=by simpa using hx
  obtain⟨a,ha,q⟩:=aA.mp (List.mem_of_getElem? hx)
  subst q
  exact((mem a.1 a.2).mp ha).1
 ·show(live.map (·.1)).toArray.size=_
  rw[zD hs 0 _ λ i hi=>ay.mp (perm.mem_iff.mp hi)]
  simp
 ·show(live.map (·.1)).toArray.size<=mask
  simp[hlen];omega
 ·intro i j h hx hh
  have hx:(live.map (·.1))[i]?=some j:=by simpa using hx
  rw[zD hs 0 _ λ i hi=>ay.mp (perm.mem_iff.mp hi)]at hh
  rw[List.getElem?_map]at hx
  rw[List.getElem?_map,List.getElem?_map]at hh
  cases w:live[i]? with
  | none=>rw[w]at hx;cases hx
  | some a =>
   rw[w]at hx hh
   have hx:a.1=j:=ao hx
   have hh:hs.getD a.2 0=h:=ao hh
   have ha:=((mem a.1 a.2).mp (List.mem_of_getElem? w)).2
   subst hx
   refine(O.rc a.1 a.2 h ha ?_).mono λ x ⟨i',hx⟩=>?_
   ·have:=O.lt _ _ ha
    rw[<-hh,aD]
    simp[this]
   ·have hlt:x<owner.size:=(Array.getElem?_eq_some_iff.mp hx).1
    have hm:(x,i')∈live:=(mem x i').mpr ⟨by rw[O.sz]at hlt;omega,hx⟩
    obtain⟨k,hk,ek⟩:=List.getElem_of_mem hm
    refine⟨k,?_⟩
    show(live.map (·.1)).toArray[k]?=some x
    simp[hk,ek]
end Tb
namespace Tb
open PySem PySem.Spec PyProof.Rows
section
variable {prog:Program}{w:World}{A:Around}{E:Value->Shared->Prop}{s:Shared}{G:List Int->Addr->Prop}
noncomputable abbrev gU (prog:Program)(w:World)(h:Heap)(ks:List Int)(a:Addr):Prop:=IsTupleKey (intKind prog w) h ks a
theorem items_int {ks:List Int}{vs:List Value}(h:ItemsAre (intKind prog w) ks vs):∀ v∈vs,∃ i t,v=Value.int i t:=by
 induction h with
 | nil=>intro v hv;cases hv
 | cons h1 _ ih =>
  intro v hv
  rcases ar.mp hv with rfl | hv
  ·obtain⟨t,e⟩:=Value.isInt_shape h1
   exact⟨_,t,e⟩
  ·exact ih v hv
theorem Ca {ks:List Int}{a:Addr}{Q:Bool->Shared->Prop}(hk:gU prog w s.heap ks a)(h:Q true s):wpAny (model prog w) A (hashByValue 8 (.ref a)) Q E s:=by
 have hT:=hk.typeIs
 obtain⟨o,items,n,ho,_,hd,hi⟩:=hk
 have hin:=items_int hi
 unfold hashByValue
 refine av (wpAny_specialOf hT F.slot_tuple_hash.lookup ?_)
 dsimp only
 refine av (wpAny_seqItems ho hd ?_)
 refine av ?_
 show wpAny _ _ (forIn items _ _) _ _ s
 rw[<-Array.forIn_toList]
 refine wpAny_forIn_list _ (λ rest r s'=>r.1=none/\s'=s/\∀ v∈rest,∃ i t,v=Value.int i t) _ ?_ ?_ _ _ ⟨rfl,rfl,hin⟩
 ·rintro v rest r s' ⟨hr,rfl,hall⟩
  obtain⟨i,t,rfl⟩:=hall v ai
  refine av (aw ?_)
  simp only[Bool.not_true,Bool.false_eq_true,if_false]
  exact aw ⟨rfl,rfl,λ u hu=>hall u (ak _ hu)⟩
 ·rintro⟨r1,r2⟩ s' ⟨hr,rfl,_⟩
  simp only at hr
  subst hr
  exact aw h
theorem uI {ks:List Int}{a:Addr}{Q:Bool->Shared->Prop}(hk:gU prog w s.heap ks a)(h:Q false s):wpAny (model prog w) A (ofAClassStatement 8 (.ref a)) Q E s:=by
 have hT:=hk.typeIs
 obtain⟨o,items,n,ho,_,hd,hi⟩:=hk
 have hin:=items_int hi
 unfold ofAClassStatement
 refine av (wpAny_typeOf hT ?_)
 dsimp only
 rw[ae (by decide)]
 refine av (aw ?_)
 simp only[Bool.not_true,Bool.false_eq_true,if_false]
 refine av (wpAny_seqItems ho hd ?_)
 dsimp only
 refine av ?_
 show wpAny _ _ (forIn items _ _) _ _ s
 rw[<-Array.forIn_toList]
 refine wpAny_forIn_list _ (λ rest r s'=>r.1=none/\s'=s/\∀ v∈rest,∃ i t,v=Value.int i t) _ ?_ ?_ _ _ ⟨rfl,rfl,hin⟩
 ·rintro v rest r s' ⟨hr,rfl,hall⟩
  obtain⟨i,t,rfl⟩:=hall v ai
  refine av (aw ?_)
  simp only[Bool.false_eq_true,if_false]
  exact aw ⟨rfl,rfl,λ u hu=>hall u (ak _ hu)⟩
 ·rintro⟨r1,r2⟩ s' ⟨hr,rfl,_⟩
  simp only at hr
  subst hr
  exact aw h
theorem F6 {k:List Int}{b:Addr}{stored:List Value}{Q:Bool->Shared->Prop}(hk:gU prog w s.heap k b)(hs:∀ v∈stored,∃ c k',v=Value.ref c/\gU prog w s.heap k' c)(h:Q false s):wpAny (model prog w) A (searchCouldBeSeen (.ref b) stored) Q E s:=by
 unfold searchCouldBeSeen
 refine av ?_
 refine wpAny_forIn_list _ (λ rest r s'=>r.1=none/\s'=s/\∀ v∈rest,∃ c k',v=Value.ref c/\gU prog w s.heap k' c) _ ?_ ?_ _ _ ⟨rfl,rfl,hs⟩
 ·rintro v rest r s' ⟨hr,rfl,hall⟩
  obtain⟨c,k',rfl,hc⟩:=hall v ai
  have nxt:∀ v∈rest,∃ c k',v=Value.ref c/\gU prog w s'.heap k' c:=λ u hu=>hall u (ak _ hu)
  dsimp only
  split
  ·exact aw ⟨rfl,rfl,nxt⟩
  ·refine av (wpAny_eqIsQuiet_tuple hk ?_)
   simp only[Bool.not_true,Bool.false_eq_true,if_false]
   refine av (wpAny_eqIsQuiet_tuple hc ?_)
   simp only[Bool.not_true,Bool.false_eq_true,if_false]
   refine av (uI hk ?_)
   simp only[Bool.false_eq_true,if_false]
   refine av (uI hc ?_)
   simp only[Bool.false_eq_true,if_false]
   exact aw ⟨rfl,rfl,nxt⟩
 ·rintro⟨r1,r2⟩ s' ⟨hr,rfl,_⟩
  simp only at hr
  subst hr
  exact aw h
noncomputable def o4 (G:List Int->Addr->Prop)(prog:Program)(w:World)(h:Heap)(ks:List (List Int))(es:List (Int×Value)):Prop:=Paired (λ k e=>∃ b,e=(tupleKeyHash (intKind prog w) k,Value.ref b)/\gU prog w h k b/\G k b) ks es
theorem o4.get {h:Heap}:∀ {ks:List (List Int)} {es:List (Int×Value)},o4 G prog w h ks es->∀ (i:Nat) (e:Int×Value),es[i]?=some e->∃ k b,ks[i]?=some k/\e=(tupleKeyHash (intKind prog w) k,Value.ref b)/\gU prog w h k b/\G k b
 := by
  intro ks es h
  induction h with
  | nil=>intro i e q;simp at q
  | cons z r ih =>
    intro i e q
    cases i with
    | zero =>
      rw[List.getElem?_cons_zero]at q
      cases q
      obtain⟨b,e1,hb⟩:=z
      exact⟨_,b,rfl,e1,hb⟩
    | succ i =>
      rw[List.getElem?_cons_succ]at q
      obtain⟨k,b,h1,h2⟩:=ih i e q
      exact⟨k,b,by rw[List.getElem?_cons_succ];exact h1,h2⟩
theorem fits_of {t:SetTable}{hs:List Int}(T:TOk t hs){n:Nat}(hn:n=hs.length):t.fits n=true:=by
 unfold SetTable.fits SetTable.fill
 have h1:=T.sz
 have h2:=T.ro
 have h3:=T.d
 simp[h3,hn,h1]
 omega
theorem qa {a:Addr}{o:Obj}{es:Array (Int×Value)}{ep:Nat}{t:SetTable}{ks:List (List Int)}{k:List Int}{b:Addr}{Q:SetFound->Shared->Prop}(hu:A.units<cLine)
  (ho:s.heap.get? a=some o) (hd:o.data=.set es ep t) (T:TOk t (es.toList.map (·.1))) (En:o4 G prog w s.heap ks es.toList) (hk:gU prog w s.heap k b)
  {e:Nat} (he:¬ Occ t (walk t.mask (st t.mask (tupleKeyHash (intKind prog w) k)) e).j) (hb:∀ m,m<e->Occ t (walk t.mask (st t.mask (tupleKeyHash (intKind prog w) k)) m).j) (hf:e<10*SetTable.turns t.mask)
  (h1:k∈ks->Q (.there none) s) (h2:(∀ m,m<e->∀ i:Nat,t.place[i]?=some (walk t.mask (st t.mask (tupleKeyHash (intKind prog w) k)) m).j->ks[i]?≠some k)->Q (.free (walk t.mask (st t.mask (tupleKeyHash (intKind prog w) k)) e).j false) s) :
  ∀ (fuel n:Nat) (stand:Option SetTable.Probe),n<=e->e<n+fuel->stand.getD (t.probeStart (tupleKeyHash (intKind prog w) k))=walk t.mask (st t.mask (tupleKeyHash (intKind prog w) k)) n ->
   (∀ m,m<n->∀ i:Nat,t.place[i]?=some (walk t.mask (st t.mask (tupleKeyHash (intKind prog w) k)) m).j->ks[i]?≠some k)->wpAny (model prog w) A (setSearchFrom a (.ref b) (tupleKeyHash (intKind prog w) k) true fuel stand) Q E s
 | 0,n,stand,a1,a2,_,_=>by omega
 | fuel+1,n,stand,a1,a2,a3,a4=>by
  have hfit:=fits_of T (n:=es.size) (by simp)
  unfold setSearchFrom
  refine av (wpAny_setState_of ho hd hfit ?_)
  dsimp only
  have hgw:t.gaveWay=false:=by
   unfold SetTable.gaveWay
   rcases T.m with z | z | z<;>rw[z]<;>decide
  rw[hgw]
  simp only[Bool.false_eq_true,if_false]
  rw[a3]
  generalize hpr:SetTable.probe t _ (tupleKeyHash (intKind prog w) k) _=r
  obtain⟨f,hff,hpr⟩:∃ f:Nat->Int,(∀ i,f i=((es[i]?.map (·.1)).getD 0))/\SetTable.probe t f (tupleKeyHash (intKind prog w) k) (walk t.mask (st t.mask (tupleKeyHash (intKind prog w) k)) n)=r:=⟨_,λ _=>rfl,hpr⟩
  unfold SetTable.probe at hpr
  have keyOf:∀ (i j:Nat),t.place[i]?=some j->∃ k' b',ks[i]?=some k'/\es[i]?=some (tupleKeyHash (intKind prog w) k',Value.ref b')/\gU prog w s.heap k' b':=λ i j hj=>by
   have hi:i<es.size:=by
    have:=(Array.getElem?_eq_some_iff.mp hj).1
    rw[T.sz]at this;simpa using this
   obtain⟨k',b',q1,q2,q3⟩:=En.get i es[i] (by simp[hi])
   exact⟨k',b',q1,by rw[<-q2];simp[hi],q3.1⟩
  have skipN:∀ m,(∀ i:Nat,t.place[i]?=some (walk t.mask (st t.mask (tupleKeyHash (intKind prog w) k)) m).j->f i≠tupleKeyHash (intKind prog w) k)->∀ i:Nat,t.place[i]?=some (walk t.mask (st t.mask (tupleKeyHash (intKind prog w) k)) m).j->ks[i]?≠some k:=λ m hm i hi hki=>by
   obtain⟨k',b',q1,q2,_⟩:=keyOf i _ hi
   rw[q1]at hki
   cases hki
   exact hm i hi (by rw[hff,q2];rfl)
  rcases xp T (hashAt:=f) he hb (10*SetTable.turns t.mask) n a1 (by omega) with⟨p1,p2⟩ | ⟨m,i,b1,b2,b3,b4,b5,b6⟩
  ·rw[p1]at hpr
   subst hpr
   dsimp only
   refine aw (h2 λ m hm=>?_)
   by_cases hmn:m<n
   ·exact a4 m hmn
   ·exact skipN m (p2 m (by omega) hm)
  ·rw[b6]at hpr
   subst hpr
   dsimp only
   obtain⟨k',b',q1,q2,q3⟩:=keyOf i _ b3
   have cont:wpAny (model prog w) A (do
     let some (_,y):=es[i]? | unsupported "internal:set-entry"
     let equal<-holding [y] (eqBool y (.ref b))
     let (es',_,t')<-setState a
     if true&&equal then return .there none
     let some same:=t'.sameMemory t.moves t.mask | unsupported "set.changed-during-lookup:is-the-new-block-at-the-old-address"
     let still<-match (if same then t'.slot (walk t.mask (st t.mask (tupleKeyHash (intKind prog w) k)) m).j else .empty) with
      | .live i'=>match es'[i']? with
       | some (_,y')=>do pure (if<-isSame y' y then some i' else none)
       | none=>pure none
      | _=>pure none
     match still with
     | none=>rule "set.search.anew";setSearchFrom a (.ref b) (tupleKeyHash (intKind prog w) k) true fuel none
     | some i'=>if equal then return .there (some i') else setSearchFrom a (.ref b) (tupleKeyHash (intKind prog w) k) true fuel (some (walk t.mask (st t.mask (tupleKeyHash (intKind prog w) k)) (m+1)))) Q E s:=by
    rw[q2]
    dsimp only
    refine av (wpAny_holding (wpAny_eqBool_tuple hu q3 hk ?_))
    refine av (wpAny_setState_of ho hd hfit ?_)
    dsimp only
    by_cases hkk:k'=k
    ·rw[decide_eq_true hkk]
     simp only[Bool.and_self,if_true]
     exact aw (h1 (List.mem_of_getElem? (hkk▸q1)))
    ·rw[decide_eq_false hkk]
     simp only[Bool.and_false,Bool.false_eq_true,if_false]
     have hsm:t.sameMemory t.moves t.mask=some true:=by unfold SetTable.sameMemory;simp
     rw[hsm]
     dsimp only
     simp only[if_true]
     rw[o3 T.ri b3]
     dsimp only
     rw[q2]
     dsimp only
     refine av (wpAny_isSame_ref_self ?_)
     simp only[if_true]
     refine av (aw ?_)
     dsimp only
     refine qa hu ho hd T En hk he hb hf h1 h2 fuel (m+1) _ (by omega) (by omega) rfl λ m' hm'=>?_
     by_cases c1:m'<n
     ·exact a4 m' c1
     ·by_cases c2:m'<m
      ·exact skipN m' (b5 m' (by omega) c2)
      ·have:m'=m:=by omega
       subst this
       intro i' hi' hki'
       have:i'=i:=(below_at T.ri hi').symm.trans (below_at T.ri b3)
       rw[this,q1]at hki'
       exact hkk (ao hki')
   by_cases hled:t.led=true
   ·rw[hled]
    simp only[Bool.not_true,Bool.false_eq_true,if_false]
    exact cont
   ·have hled:t.led=false:=by simpa using hled
    rw[hled]
    simp only[Bool.not_false,if_true]
    refine av (F6 hk (λ v hv=>?_) ?_)
    ·obtain⟨ev,he1,he2⟩:=aA.mp hv
     have he3:ev∈es.toList:=by
      have:=he1
      rw[Array.toList_filter]at this
      exact(List.mem_filter.mp this).1
     obtain⟨i',hi',ei'⟩:=List.getElem_of_mem he3
     obtain⟨k'',b'',_,q5,q6⟩:=En.get i' ev (by rw[<-ei'];simp[hi'])
     rw[q5]at he2
     exact⟨b'',k'',he2.symm,q6.1⟩
    ·simp only[Bool.false_eq_true,if_false]
     exact cont
end
set_option tactic.hygienic true in
theorem AX {mask:Nat}(h:Int):∀ n,(walk mask (st mask h) n).j+(walk mask (st mask h) n).more<=mask/\(walk mask (st mask h) n).i<=mask
 | 0=>by
  have h1:=bits_le mask h
  have h2:=kT h1
  show SetTable.bits h % (mask+1)+(SetTable.runEnd mask (SetTable.bits h % (mask+1))-SetTable.bits h % (mask+1))<=mask/\SetTable.bits h % (mask+1)<=mask
  omega
 | n+1=>by
  obtain⟨h1,h2⟩:=AX (mask:=mask) h n
  show(adv mask (walk mask (st mask h) n)).j+(adv mask (walk mask (st mask h) n)).more<=mask/\(adv mask (walk mask (st mask h) n)).i<=mask
  unfold adv
  split
  ·rename_i hm
   show(walk mask (st mask h) n).j+1+((walk mask (st mask h) n).more-1)<=mask/\(walk mask (st mask h) n).i<=mask
   omega
  ·have h3:(SetTable.leap mask (walk mask (st mask h) n).i (walk mask (st mask h) n).perturb).1<=mask:=Nat.le_of_lt_succ (Nat.mod_lt _ (Nat.succ_pos _))
   have h4:=kT h3
   dsimp only
   omega
theorem DN {α:Type}(l:List α)(p:Nat)(x:α):(SetTable.insertAt l.toArray p x).toList=l.take p++x::l.drop p:=by rw[SetTable.toList_insertAt]
theorem qb {α β:Type}{F:α->β->Prop}:∀ {xs:List α} {ys:List β} (n:Nat),Paired F xs ys->Paired F (xs.take n) (ys.take n)
 | _,_,0,_=>.nil
 | _,_,_+1,.nil=>.nil
 | _,_,n+1,.cons h t=>.cons h (qb n t)
theorem qc {α β:Type}{F:α->β->Prop}:∀ {xs:List α} {ys:List β} (n:Nat),Paired F xs ys->Paired F (xs.drop n) (ys.drop n)
 | _,_,0,h=>h
 | _,_,_+1,.nil=>.nil
 | _,_,n+1,.cons _ t=>qc n t
theorem zE {α β:Type}{F:α->β->Prop}:∀ {xs xs':List α} {ys ys':List β},Paired F xs ys->Paired F xs' ys'->Paired F (xs++xs') (ys++ys')
 := by
  intro xs xs' ys ys' h h'
  induction h with
  | nil=>exact h'
  | cons h t ih=>exact .cons h ih
theorem jV {α β:Type}{F G:α->β->Prop}(k:∀ a b,F a b->G a b):∀ {xs:List α} {ys:List β},Paired F xs ys->Paired G xs ys
 | _,_,.nil=>.nil
 | _,_,.cons h t=>.cons (k _ _ h) (jV k t)
theorem zF {α β:Type}{F:α->β->Prop}:∀ {xs:List α} {ys:List β},Paired F xs ys->∀ (i:Nat) (x:α) (y:β),xs[i]?=some x->ys[i]?=some y->F x y
 := by
  intro xs ys h
  induction h with
  | nil=>intro i x y h;simp at h
  | cons h t ih =>
    intro i x y e1 e2
    cases i with
    | zero =>
      rw[List.getElem?_cons_zero]at e1 e2
      cases e1;cases e2;exact h
    | succ i =>
      rw[List.getElem?_cons_succ]at e1 e2
      exact ih i x y e1 e2
theorem jW {α β:Type}{F:α->β->Prop}{xs:List α}{ys:List β}(P:Paired F xs ys):∀ (l:List Nat),Paired F (l.filterMap λ i=>xs[i]?) (l.filterMap λ i=>ys[i]?)
 | []=>.nil
 | i::r=>by
  have hl:=P.length
  rw[List.filterMap_cons,List.filterMap_cons]
  by_cases hi:i<xs.length
  ·have e1:xs[i]?=some xs[i]:=by simp[hi]
   have e2:ys[i]?=some (ys[i]'(by omega)):=by simp[show i<ys.length by omega]
   rw[e1,e2]
   exact .cons (zF P i _ _ e1 e2) (jW P r)
  ·have e1:xs[i]?=none:=List.getElem?_eq_none (by omega)
   have e2:ys[i]?=none:=List.getElem?_eq_none (by omega)
   rw[e1,e2]
   exact jW P r
section
variable {prog:Program}{w:World}{A:Around}{E:Value->Shared->Prop}{s:Shared}{G:List Int->Addr->Prop}
theorem AY {h h':Heap}{k:List Int}{a b:Addr}{o:Obj}{es:Array (Int×Value)}{ep:Nat}{t:SetTable}(x:gU prog w h k b)(ho:h.get? a=some o)(hd:o.data=.set es ep t)(sb:Heap.SameBut a h h'):gU prog w h' k b:=by
 obtain⟨ob,its,n,e1,e2,e3,e4⟩:=x
 have:b≠a:=by
  rintro rfl
  rw[e1]at ho
  cases ho
  rw[e3]at hd;cases hd
 exact⟨ob,its,n,(sb.2 b this).trans e1,e2,e3,e4⟩
theorem o4.sb {h h':Heap}{ks:List (List Int)}{a:Addr}{l:List (Int×Value)}{o:Obj}{es:Array (Int×Value)}{ep:Nat}{t:SetTable}(x:o4 G prog w h ks l)(ho:h.get? a=some o)(hd:o.data=.set es ep t)(sb:Heap.SameBut a h h'):o4 G prog w h' ks l :=
 jV (λ k e ⟨b,e1,hb⟩=>⟨b,e1,AY hb.1 ho hd sb,hb.2⟩) x
noncomputable def DO (mask n:Nat):Prop:=(mask=7/\n<=4)\/(mask=31/\n<=18)\/(mask=127/\n<=76)
noncomputable def rZ (G:List Int->Addr->Prop)(prog:Program)(w:World)(h:Heap)(a:Addr)(ks:List (List Int)):Prop:=∃ o es ep t,h.get? a=some o/\o.ExactSet/\o.data=.set es ep t/\TOk t (es.toList.map (·.1))/\o4 G prog w h ks es.toList/\t.plain=true/\t.led=!(w.params.followText "set-order")/\DO t.mask es.size/\ks.Nodup
theorem r6 {h:Heap}{a:Addr}{o:Obj}{es es':Array (Int×Value)}{ep:Nat}{t t':SetTable}(ho:h.get? a=some o)(hd:o.data=.set es ep t):(h.update a (Obj.putSet es' t')).get? a=some {o with data:=.set es' (ep+1) t'}:=by
 have:=Heap.get?_update_self (Obj.putSet es' t') ho (by rw[putSet_of es' t' hd];rfl)
 rw[putSet_of es' t' hd]at this
 exact this
theorem Cb {a:Addr}{o:Obj}{es:Array (Int×Value)}{ep:Nat}{t:SetTable}{ks:List (List Int)}{n:Nat}{Q:Unit->Shared->Prop}(ho:s.heap.get? a=some o)(hx:o.ExactSet)(hd:o.data=.set es ep t)(T:TOk t (es.toList.map (·.1)))(En:o4 G prog w s.heap ks es.toList)
  (hp:t.plain=true) (hl:t.led=!(w.params.followText "set-order")) (nd:ks.Nodup) (hm:Mk (SetTable.sizeAbove n-1)) (hn:DO (SetTable.sizeAbove n-1) es.size)
  (h:∀ h' ks',Heap.SameBut a s.heap h'->List.Perm ks' ks->rZ G prog w h' a ks'->Q () {s with heap:=h'}):wpAny (model prog w) A (setRelay a n) Q E s:=by
 unfold setRelay
 refine av (wpAny_setState_of ho hd (fits_of T (by simp)) ?_)
 dsimp only
 have hsz:¬ SetTable.sizeAbove n>sizeLine:=by
  rw[sizeLine_eq]
  rcases hm with z | z | z<;>omega
 rw[af hsz]
 have hes:es.size<=SetTable.sizeAbove n-1:=by
  rcases hn with⟨z,q⟩ | ⟨z,q⟩ | ⟨z,q⟩<;>omega
 obtain⟨t',order,e,m1,l1,p1,perm,T'⟩:=F5 hm (es.toList.map (·.1)) (by simpa using hes) t.finger (t.movedTo (SetTable.sizeAbove n-1)) t.led t.plain
 have eL:t.relaid (es.map (·.1)) n=some (t',order):=by
  unfold SetTable.relaid
  rw[<-e]
  congr 1
  apply Array.ext'
  simp
 rw[eL]
 have hlen:(order.filterMap λ i=>es[i]?).size=es.size:=by
  have h1:(order.filterMap λ i=>es[i]?).toList=order.toList.filterMap λ i=>es.toList[i]?:=by simp
  have h2:(order.filterMap λ i=>es[i]?).toList.length=es.toList.length:=by
   rw[h1]
   have:=(perm.filterMap λ i=>es.toList[i]?).length_eq
   rw[this]
   rw[ah]
   rw[PySem.List.filterMap_getElem?_range_length]
  rw[Array.length_toList,Array.length_toList]at h2
  exact h2
 refine av ?_
 show wpAny _ _ (do
  let es':=order.filterMap λ i=>es[i]?
  if (es'.size != es.size)=true then unsupported "internal:set-table-lost-an-element"
  pure (es',t')) _ _ _
 dsimp only
 rw[hlen]
 simp only[bne_self_eq_false,Bool.false_eq_true,if_false]
 refine aw ?_
 dsimp only
 have sb:=Heap.SameBut.update s.heap a (Obj.putSet (order.filterMap λ i=>es[i]?) t')
 refine wpAny_storeSet_of ho hd (h _ (order.toList.filterMap λ i=>ks[i]?) sb ?_ ⟨_,_,_,_,r6 ho hd,hx,rfl,?_,?_,p1.trans hp,l1.trans hl,?_,?_⟩) ?_
 ·have hkl:ks.length=es.toList.length:=En.length
  have:=perm.filterMap λ i=>ks[i]?
  rw[ah,<-hkl,PySem.List.filterMap_getElem?_range_length]at this
  exact this
 ·have e1:(order.filterMap λ i=>es[i]?).toList.map (·.1)=order.toList.filterMap λ i=>(es.toList.map (·.1))[i]?:=by
   rw[Array.toList_filterMap,List.map_filterMap]
   congr 1
   funext i
   simp
  rw[e1];exact T'
 ·have:o4 G prog w _ ks es.toList:=En.sb ho hd sb
  have q:=jW this order.toList
  rw[Array.toList_filterMap]
  refine Eq.mp ?_ q
  congr 1
  congr 1
  funext i
  simp
 ·rw[m1,hlen];exact hn
 ·have hkl:ks.length=es.toList.length:=En.length
  have:=perm.filterMap λ i=>ks[i]?
  rw[ah,<-hkl,PySem.List.filterMap_getElem?_range_length]at this
  exact this.nodup_iff.mpr nd
 ·rw[hlen,sizeLine_eq]
  rcases hn with⟨z,q⟩ | ⟨z,q⟩ | ⟨z,q⟩<;>omega
theorem F7 {a:Addr}{ks:List (List Int)}{k:List Int}{b:Addr}{Q:Bool->Shared->Prop}(hu:A.units<cLine)(S:rZ G prog w s.heap a ks)(hk:gU prog w s.heap k b)(hg:G k b)(hn:ks.length<40)
  (h:∀ h' ks' c tk,Heap.SameBut a s.heap h'->rZ G prog w h' a ks'->List.Perm ks' (if k∈ks then ks else k::ks)->Q c {s with heap:=h',toks:=tk}):wpAny (model prog w) A (setAdd a (.ref b)) Q E s:=by
 unfold setAdd
 refine wpAny_holding (av (wpAny_pyHash_tuple hu hk ?_))
 show wpAny (model prog w) A (setAddHashed a (.ref b) (tupleKeyHash (intKind prog w) k)) Q E {s with toks:=s.toks+(k.length+1)}
 unfold setAddHashed
 refine wpAny_holding ?_
 obtain⟨o,es,ep,t,ho,hx,hd,T,En,hp,hl,hr,nd⟩:=S
 have hkl:ks.length=es.size:=by simpa using En.length
 have hfit:=fits_of T (n:=es.size) (by simp)
 unfold setAddHashedIn
 refine av (wpAny_setState_of ho hd hfit ?_)
 dsimp only
 have hbs:byScan (.ref b) es=false:=rfl
 rw[hbs]
 simp only[Bool.false_eq_true,if_false]
 obtain⟨e,he1,he2,he3⟩:=B_ T (tupleKeyHash (intKind prog w) k)
 refine av ?_
 unfold setSearch
 refine qa (s:={s with toks:=s.toks+(k.length+1)}) hu ho hd T En hk he2 he3 he1 (λ hin=>?_) (λ hno=>?_) 100000 0 none (Nat.zero_le _) ?_ rfl (λ m hm=>absurd hm (Nat.not_lt_zero _))
 ·dsimp only
  refine aw ?_
  have:=h s.heap ks false (s.toks+(k.length+1)) (Heap.SameBut.refl a s.heap) ⟨o,es,ep,t,ho,hx,hd,T,En,hp,hl,hr,nd⟩ (by rw[ae hin])
  exact this
 ·have hnk:k∉ks:=λ hm=>by
   obtain⟨i,hi,ei⟩:=List.getElem_of_mem hm
   have hki:ks[i]?=some k:=by rw[<-ei];simp[hi]
   have hie:i<es.size:=by omega
   obtain⟨k',b',q1,q2,q3⟩:=En.get i es[i] (by simp[hie])
   rw[hki]at q1
   cases q1
   have hpl:i<t.place.size:=by rw[T.sz];simpa using hie
   have hpi:t.place[i]?=some t.place[i]:=by simp[hpl]
   obtain⟨n,r1,r2⟩:=T.rc i t.place[i] (tupleKeyHash (intKind prog w) k) hpi (by simp[hie,q2])
   have hne:n<e:=by
    rcases Nat.lt_trichotomy n e with z | z | z
    ·exact z
    ·exact absurd ⟨i,by rw[<-z,r1];exact hpi⟩ he2
    ·exact absurd (r2 e z) he2
   exact hno n hne i (by rw[r1];exact hpi) hki
  dsimp only
  refine av (wpAny_setState_of ho hd hfit ?_)
  dsimp only
  have hj:=(AX (mask:=t.mask) (tupleKeyHash (intKind prog w) k) e).1
  have hro:t.place.size+1<=t.mask:=by
   have:=T.sz
   rw[ah,Array.length_toList]at this
   rcases hr with⟨z,q⟩ | ⟨z,q⟩ | ⟨z,q⟩<;>omega
  have T1:=IY T he2 he3 (Nat.le_trans (Nat.le_add_right _ _) hj) hro (led:=true) (plain:=true)
  generalize hjj:(walk t.mask (st t.mask (tupleKeyHash (intKind prog w) k)) e).j=j at *
  have hpp:(t.put j).1.plain=true:=hp
  rw[hpp]
  simp only[if_true]
  refine av (Ca (s:={s with toks:=s.toks+(k.length+1)}) hk ?_)
  simp only[if_true]
  have ep2:(t.put j).2=SetTable.below t.place j:=rfl
  rw[ep2]
  have tEq:({(t.put j).1 with plain:=true}:SetTable)=(t.put j).1:=by
   have:∀ (u:SetTable),u.plain=true->({u with plain:=true}:SetTable)=u:=λ u hu=>by cases u;cases hu;rfl
   exact this _ hpp
  rw[tEq]at T1
  generalize hes1:SetTable.insertAt es (SetTable.below t.place j) (tupleKeyHash (intKind prog w) k,Value.ref b)=es1
  have hl1:es1.toList=es.toList.take (SetTable.below t.place j)++(tupleKeyHash (intKind prog w) k,Value.ref b)::es.toList.drop (SetTable.below t.place j):=by rw[<-hes1,SetTable.toList_insertAt]
  have hs1:es1.size=es.size+1:=by rw[<-hes1,nu]
  have T2:TOk (t.put j).1 (es1.toList.map (·.1)):=by
   rw[DN]at T1
   rw[hl1,List.map_append,List.map_cons,List.map_take,List.map_drop]
   exact T1
  have sb1:=Heap.SameBut.update s.heap a (Obj.putSet es1 (t.put j).1)
  have En1:o4 G prog w (s.heap.update a (Obj.putSet es1 (t.put j).1)) (ks.take (SetTable.below t.place j)++k::ks.drop (SetTable.below t.place j)) es1.toList:=by
   rw[hl1]
   have q:=En.sb ho hd sb1
   exact zE (qb _ q) (.cons ⟨b,rfl,AY hk ho hd sb1,hg⟩ (qc _ q))
  have pm:List.Perm (ks.take (SetTable.below t.place j)++k::ks.drop (SetTable.below t.place j)) (k::ks):=by
   have:=@List.perm_middle _ k (ks.take (SetTable.below t.place j)) (ks.drop (SetTable.below t.place j))
   rw[List.take_append_drop]at this
   exact this
  have nd1:(ks.take (SetTable.below t.place j)++k::ks.drop (SetTable.below t.place j)).Nodup:=pm.nodup_iff.mpr (List.nodup_cons.mpr ⟨hnk,nd⟩)
  refine av (wpAny_storeSet_of (s:={s with toks:=s.toks+(k.length+1)}) ho hd ?_ (by rw[hs1,sizeLine_eq];omega))
  have hpm:∀ ks',List.Perm ks' (ks.take (SetTable.below t.place j)++k::ks.drop (SetTable.below t.place j))->List.Perm ks' (if k∈ks then ks else k::ks):=λ ks' p=>by
   rw[af hnk];exact p.trans pm
  by_cases hf:(t.put j).1.tooFull=true
  ·rw[hf]
   simp only[Bool.not_false,Bool.and_self,if_true]
   have hfill:(t.put j).1.fill=es.size+1:=by
    have h1:=T2.sz
    have h2:=T2.d
    unfold SetTable.fill
    rw[h1,h2]
    simp[hs1]
   have hff:(es.size+1)*5≥t.mask*3:=by
    unfold SetTable.tooFull at hf
    rw[hfill,show(t.put j).1.mask=t.mask from rfl]at hf
    simpa using hf
   have hcase:(t.mask=7/\es.size=4)\/(t.mask=31/\es.size=18):=by
    rcases hr with⟨z,q⟩ | ⟨z,q⟩ | ⟨z,q⟩
    ·rw[z]at hff;exact .inl ⟨z,by omega⟩
    ·rw[z]at hff;exact .inr ⟨z,by omega⟩
    ·rw[z]at hff;omega
   have hsa:SetTable.sizeAbove (SetTable.grown (4+1))=32:=by decide
   have hsb:SetTable.sizeAbove (SetTable.grown (18+1))=128:=by decide
   refine av (Cb (s:={s with heap:=s.heap.update a (Obj.putSet es1 (t.put j).1),toks:=s.toks+(k.length+1)}) (n:=SetTable.grown (es.size+1)) (r6 ho hd) hx rfl T2 En1 hpp hl nd1 ?_ ?_ λ h2 ks2 sb2 p2 S2=>?_)
   ·rcases hcase with⟨_,z⟩ | ⟨_,z⟩
    ·rw[z,hsa];exact .inr (.inl rfl)
    ·rw[z,hsb];exact .inr (.inr rfl)
   ·rcases hcase with⟨_,z⟩ | ⟨_,z⟩
    ·rw[z,hsa,hs1,z];exact .inr (.inl ⟨rfl,by omega⟩)
    ·rw[z,hsb,hs1,z];exact .inr (.inr ⟨rfl,by omega⟩)
   ·exact aw (h h2 ks2 true _ (sb1.trans sb2) S2 (hpm _ p2))
  ·have hf':(t.put j).1.tooFull=false:=by simpa using hf
   rw[hf']
   simp only[Bool.and_false,Bool.false_eq_true,if_false]
   have hfill:(t.put j).1.fill=es.size+1:=by
    have h1:=T2.sz
    have h2:=T2.d
    unfold SetTable.fill
    rw[h1,h2]
    simp[hs1]
   have hff:¬ (es.size+1)*5≥t.mask*3:=by
    unfold SetTable.tooFull at hf'
    rw[hfill,show(t.put j).1.mask=t.mask from rfl]at hf'
    simpa using hf'
   refine aw (h _ _ true _ sb1 ⟨_,es1,_,(t.put j).1,r6 ho hd,hx,rfl,T2,En1,hpp,hl,?_,nd1⟩ (hpm _ (List.Perm.refl _)))
   show DO t.mask es1.size
   rw[hs1]
   rcases hr with⟨z,q⟩ | ⟨z,q⟩ | ⟨z,q⟩
   ·rw[z]at hff;exact .inl ⟨z,by omega⟩
   ·rw[z]at hff;exact .inr (.inl ⟨z,by omega⟩)
   ·rw[z]at hff;exact .inr (.inr ⟨z,by omega⟩)
 ·have:SetTable.turns t.mask<=142:=by
   unfold SetTable.turns
   rcases T.m with z | z | z<;>omega
  omega
end
section
variable {prog:Program}{w:World}{A:Around}{E:Value->Shared->Prop}{s:Shared}{G:List Int->Addr->Prop}
theorem lP {h h':Heap}{k:List Int}{b:Addr}(x:gU prog w h k b)(kp:∀ o,h.get? b=some o->h'.get? b=some o):gU prog w h' k b :=
 let ⟨o,its,n,e1,e2,e3,e4⟩:=x
 ⟨o,its,n,kp o e1,e2,e3,e4⟩
theorem o4.keep {h h':Heap}{ks:List (List Int)}{es:List (Int×Value)}(x:o4 G prog w h ks es)(kp:∀ b o,h.get? b=some o->o.cls=.type "tuple"->h'.get? b=some o):o4 G prog w h' ks es :=
 jV (λ k e ⟨b,e1,hb⟩=>⟨b,e1,lP hb.1 (λ o ho=>kp b o ho (by
  obtain⟨o',its,n,q1,q2,_⟩:=hb.1
  rw[q1]at ho;cases ho;exact q2)),hb.2⟩) x
theorem rZ.keep {h h':Heap}{a:Addr}{ks:List (List Int)}(S:rZ G prog w h a ks)(ka:∀ o,h.get? a=some o->h'.get? a=some o)(kp:∀ b o,h.get? b=some o->o.cls=.type "tuple"->h'.get? b=some o):rZ G prog w h' a ks :=
 by
 obtain⟨o,es,ep,t,ho,hx,hd,T,En,r⟩:=S
 exact⟨o,es,ep,t,ka o ho,hx,hd,T,En.keep kp,r⟩
theorem DP {R:Result->Shared->Prop}(hh:A.in1.handled=none)(hu:A.in1.units<cLine){S I l:Addr}{items:Array Value}{kk:List (List Int)}(hk:kk.length=items.size)(h40:items.size<=40)(n1:S≠I)(n2:S≠l)(n3:l≠I) :
  ∀ (n i:Nat) (s:Shared) (ks:List (List Int)),items.size-i=n->i<=items.size->s.heap.IsListIter I l i->s.heap.IsList l items->rZ G prog w s.heap S ks ->
   (∀ (j:Nat) v,items[j]?=some v->∃ k b,kk[j]?=some k/\v=.ref b/\gU prog w s.heap k b/\G k b)->ks.length<=i->(∀ k,k∈ks↔k∈kk.take i) ->
   (∀ h' tk ks',(∀ b o,b≠S->b≠I->s.heap.get? b=some o->h'.get? b=some o)->rZ G prog w h' S ks'->(∀ k,k∈ks'↔k∈kk)->R (.ok (.ret .none)) {s with heap:=h',toks:=tk}) ->
   codeAny (model prog w) A (.builtin "set.update.loop" ⟨[.ref S,.ref I],[]⟩) R s:=by
 intro n
 induction n using Nat.strongRecOn with
 | ind n ih =>
  intro i s ks hn hi st hl hS hv hlen hm fin
  refine codeAny_builtin F.entry_set_update_loop ?_
  rw[Around.under_plainId F.plain_set_update_loop _]
  have tupI:∀ {h h':Heap} {b:Addr} {o:Obj} {x:Addr} {j:Nat},h.IsListIter x l j->h.get? b=some o->o.cls=.type "tuple"->b≠x:=λ hit e c z=>by
   obtain⟨o',e',c',_⟩:=hit
   rw[z,e']at e;cases e;rw[c']at c;injection c with c;exact absurd c (by decide)
  by_cases hlt:i<items.size
  ·show wpAny _ A.in1 (pyNext (.ref I)>>=_) _ _ s
   refine av (wpAny_pyNext_list_item st hl (x:=items[i]) (by simp[hlt]) λ h' st' sb=>?_)
   obtain⟨k,b,hkk,eb,tb,gb⟩:=hv i items[i] (by simp[hlt])
   rw[eb]
   have bI:b≠I:=by
    obtain⟨o,its,m,q1,q2,_⟩:=tb
    exact tupI (h':=h') st q1 q2
   have S1:rZ G prog w h' S ks:=hS.keep (λ o e=>(sb.2 S n1).trans e) λ c o e hc=>(sb.2 c (tupI (h':=h') st e hc)).trans e
   have tb1:gU prog w h' k b:=lP tb λ o e=>(sb.2 b bI).trans e
   refine av (wpAny_holding (F7 (s:={s with heap:=h'}) hu S1 tb1 gb (by omega) λ h2 ks2 c tk sb2 S2 p2=>?_))
   have keep2:∀ x o,x≠S->x≠I->s.heap.get? x=some o->h2.get? x=some o:=λ x o x1 x2 e=>(sb2.2 x x1).trans ((sb.2 x x2).trans e)
   refine aw ⟨plainId_quiet F.plain_set_update_loop _,?_⟩
   have mem2:∀ k',k'∈ks2↔k'∈kk.take (i+1):=λ k'=>by
    rw[p2.mem_iff,List.take_add_one,hkk,List.mem_append,<-hm k']
    by_cases hin:k∈ks
    ·rw[ae hin]
     simp only[Option.toList_some,ar,List.not_mem_nil,or_false]
     exact⟨.inl,λ z=>z.elim id λ z=>z▸hin⟩
    ·rw[af hin]
     simp only[Option.toList_some,ar,List.not_mem_nil,or_false]
     exact⟨λ z=>z.symm,λ z=>z.symm⟩
   have len2:ks2.length<=i+1:=by
    rw[p2.length_eq]
    split
    ·omega
    ·rw[List.length_cons];omega
   obtain⟨ol,hol,hcl,m,hdl⟩:=id hl
   refine ih (n-1) (by omega) (i+1) {s with heap:=h2,toks:=tk} ks2 (by omega) hlt ?_ ⟨ol,keep2 l ol n2.symm n3 hol,hcl,m,hdl⟩ S2 (λ j v hj=>?_) len2 mem2 λ h3 tk3 ks3 kp3 S3 m3=>?_
   ·obtain⟨oI,eI,cI,dI⟩:=st'
    exact⟨oI,(sb2.2 I n1.symm).trans eI,cI,dI⟩
   ·obtain⟨k',b',q1,q2,q3,g3⟩:=hv j v hj
    refine⟨k',b',q1,q2,lP q3 λ o e=>?_,g3⟩
    have c1:b'≠I:=by
     obtain⟨o',its,m,z1,z2,_⟩:=q3
     exact tupI (h':=h') st z1 z2
    have c2:b'≠S:=by
     rintro rfl
     obtain⟨oS,es,ep,t,z1,_,z2,_⟩:=hS
     obtain⟨o',its,m,y1,_,y3,_⟩:=q3
     rw[z1]at y1;cases y1;rw[z2]at y3;cases y3
    exact keep2 b' o c2 c1 e
   ·exact fin h3 tk3 ks3 (λ x o x1 x2 e=>kp3 x o x1 x2 (keep2 x o x1 x2 e)) S3 m3
  ·have e:i=items.size:=by omega
   show wpAny _ A.in1 (pyNext (.ref I)>>=_) _ _ s
   refine av (wpAny_pyNext_list_end hh st hl (Array.getElem?_eq_none (Nat.le_of_eq e.symm)) λ h' eb=>?_)
   show wpAny _ A.in1 (ret Value.none) _ _ _
   refine aw (fin h' s.toks ks (λ x o _ x2 q=>eb x o x2 q) (hS.keep (λ o q=>eb S o n1 q) λ c o q hc=>eb c o (tupI (h':=h') st q hc) q) λ k=>?_)
   rw[hm k,e,<-hk,List.take_length]
theorem F8 {a:Value}{Q₁:Value->Shared->Prop}(h:Q₁ (.ref s.heap.objs.size) {s with heap:=s.heap.push {cls:=.type "set",dict:=none,data:=.set #[] 0 (.fresh 0 0 (!(w.params.followText "set-order")))}}) :
  codeAny (model prog w) A (.call (.builtin "set.__new__") ⟨[.type "set",a],[]⟩) (wants Q₁ E) s:=by
 refine codeAny_of_tree ?_
 show wpAny _ A.in1 (checkBuiltinCall "set.__new__" ⟨[.type "set",a],[]⟩>>=λ _=>again (.builtin "set.__new__" ⟨[.type "set",a],[]⟩)) _ _ s
 refine av (wpAny_of_eq (F.newCall_set_1 a) ?_)
 refine aw ⟨plainId_quiet F.plain_set_new _,codeAny_builtin F.entry_set_new ?_⟩
 rw[Around.under_plainId F.plain_set_new _]
 unfold Builtin.«set.__new__» Builtin.Frozenset.newClass
 have hsub:=sub_set_self
 obtain⟨hp,g,d,tk,os⟩:=s
 dsimp only
 wp_walk
 refine wpAny_askSetting (aw ?_)
 dsimp only
 simp only[newObj]
 refine av (wpAny_alloc (aw ?_))
 exact aw h
theorem xr {l:Addr}{items:Array Value}{kk:List (List Int)}{Q:Value->Shared->Prop}(hh:A.handled=none)(hu:A.units+40<cLine)(hl:s.heap.IsList l items)(hk:kk.length=items.size)(h40:items.size<=40)
  (hv:∀ (j:Nat) v,items[j]?=some v->∃ k b,kk[j]?=some k/\v=.ref b/\gU prog w s.heap k b/\G k b)
  (h:∀ h' tk ks,(∀ b o,b<s.heap.objs.size->s.heap.get? b=some o->h'.get? b=some o)->rZ G prog w h' s.heap.objs.size ks->(∀ k,k∈ks↔k∈kk)->Q (.ref s.heap.objs.size) {s with heap:=h',toks:=tk}) :
  wpAny (model prog w) A (call (.type "set") [.ref l]) Q E s:=by
 obtain⟨c0,tl0,hmro⟩:=F.called_set.mro
 have hmade:=F.called_set.made
 have hsub:=F.called_set.sub
 refine wpAny_call (codeAny_of_tree ?_)
 show wpAny _ _ (callAny (.type "set") _) _ _ _
 refine aw ⟨Code.quiet_builtin _ (by decide +kernel),codeAny_builtin F.entry_type_call ?_⟩
 rw[Around.under_plain (weight_type_call_type "set" [.ref l] []) rfl]
 have hnt:=F.called_set.notType
 have hcc:=F.called_set.canCreate
 have hct:=F.typeCall_set_1 (.ref l)
 repeat (any_goals (first | assumption | wp_step))
 refine codeAny_mono (F8 (a:=.ref l) (E:=E) (Q₁:=λ obj s₁=>obj=.ref s.heap.objs.size/\s₁={s with heap:=s.heap.push {cls:=.type "set",dict:=none,data:=.set #[] 0 (.fresh 0 0 (!(w.params.followText "set-order")))}}) ⟨rfl,rfl⟩) λ r s₁ hr=>?_
 cases r with
 | error e=>exact hr
 | ok fl =>
  cases fl with
  | ret obj =>
   obtain⟨rfl,rfl⟩:=hr
   generalize hN0:({cls:=.type "set",dict:=none,data:=.set #[] 0 (.fresh 0 0 (!(w.params.followText "set-order")))}:Obj)=N0
   have hS:(s.heap.push N0).get? s.heap.objs.size=some N0:=aG _ (by rw[<-hN0];rfl)
   have hT:Shared.TypeIs {s with heap:=s.heap.push N0} (.ref s.heap.objs.size) "set":=⟨_,hS,by rw[<-hN0]⟩
   have hli:=F.called_set.init.lookup
   have hbi:=F.called_set.init.bind (.ref s.heap.objs.size)
   repeat (any_goals (first | assumption | wp_step))
   refine codeAny_mono (codeAny_call_builtin (R:=wants (λ r s₂=>r=.none/\∃ h' tk ks,s₂={s with heap:=h',toks:=tk}/\rZ G prog w h' s.heap.objs.size ks/\(∀ k,k∈ks↔k∈kk)/\(∀ b o,b<s.heap.objs.size->s.heap.get? b=some o->h'.get? b=some o)) E)
    F.called_set.init.plain F.entry_set_init (check_set_init_1 hT ?_)) λ r₂ s₂ hr₂=>?_
   ·obtain⟨ol,hol,hcl,nl,hdl⟩:=id hl
    obtain⟨ocls,odict,odata,oslots⟩:=ol
    simp only at hcl hdl
    subst hcl;subst hdl
    have hol':(s.heap.push N0).get? l=some {cls:=.type "list",dict:=odict,data:=.seq items nl,slots:=oslots}:=aC _ hol
    have hsls:=F.sub_list_set
    have hslf:=F.sub_list_frozenset
    have hne:(Value.type "list"==Value.type "dict")=false:=by decide
    have hl1:(s.heap.push N0).IsList l items:=⟨_,hol',rfl,nl,rfl⟩
    have hS0:(s.heap.push N0).get? s.heap.objs.size=some {cls:=.type "set",dict:=none,data:=.set #[] 0 (.fresh 0 0 (!(w.params.followText "set-order")))}:=by rw[hS,hN0]
    unfold Builtin.«set.__init__» noKeywords Builtin.Frozenset.updateFrom
    generalize hPI:pyIter=PI
    wp_walk
    subst hPI
    refine wpAny_pyIter_list hl1 ?_
    refine av (wpAny_runValue ?_)
    have hlS:l<s.heap.objs.size:=au hol
    have szP:(s.heap.push N0).objs.size=s.heap.objs.size+1:=Heap.size_push ..
    have keep:∀ b o,s.heap.get? b=some o->((s.heap.push N0).push {cls:=.type "list_iterator",data:=.fields #[.ref l,.int 0 0]}).get? b=some o:=λ b o e=>aC _ (aC _ e)
    refine DP (G:=G) (A:=A.in1.in1) (by simp[hh]) (Nat.lt_of_le_of_lt (show A.units+3<=A.units+40 by omega) hu) hk h40 (by rw[szP];exact Nat.ne_of_lt (Nat.lt_succ_self _)) (Nat.ne_of_gt hlS) (by rw[szP];exact Nat.ne_of_lt (Nat.lt_succ_of_lt hlS)) items.size 0 _ [] (by omega) (Nat.zero_le _)
     ⟨_,aG _ rfl,rfl,rfl⟩ (hl1.push _) ⟨_,#[],0,.fresh 0 0 (!(w.params.followText "set-order")),aC _ hS0,⟨rfl,rfl,rfl⟩,rfl,?_,.nil,rfl,rfl,.inl ⟨rfl,Nat.zero_le _⟩,List.nodup_nil⟩ (λ j v hj=>?_) (ag _) (by simp) λ h' tk ks kp S' m'=>?_
    ·exact⟨.inl rfl,rfl,λ a b x y _ e=>by simp[SetTable.fresh]at e,λ i j e=>by simp[SetTable.fresh]at e,rfl,Nat.zero_le _,λ i j h e=>by simp[SetTable.fresh]at e⟩
    ·obtain⟨k,b,q1,q2,q3,g3⟩:=hv j v hj
     exact⟨k,b,q1,q2,lP q3 (λ o e=>keep b o e),g3⟩
    ·show wpAny _ _ _ _ _ _
     refine aw ?_
     show wpAny _ _ (ret Value.none) _ _ _
     refine aw ⟨rfl,h',tk,ks,rfl,S',m',λ b o hb e=>kp b o (Nat.ne_of_lt hb) (by rw[szP];exact Nat.ne_of_lt (Nat.lt_succ_of_lt hb)) (keep b o e)⟩
   ·cases r₂ with
    | error e=>exact hr₂
    | ok fl₂ =>
     cases fl₂ with
     | ret r =>
      obtain⟨rfl,h',tk,ks,rfl,S',m',kp⟩:=hr₂
      repeat (any_goals (first | assumption | wp_step))
      exact h _ _ _ kp S' m'
     | _=>exact hr₂.elim
  | _=>exact hr.elim
end
end Tb
namespace Tb
open PySem PySem.W PyProof.Rows
noncomputable def Tr {α:Type}(n:Nat)(c:Nat->Nat->Bool)(R:α->Prop):KasT α->Prop
 | .ret a=>R a
 | .ask i j k=>i<n/\j<n/\Tr n c R (k (c i j))
section
variable {n:Nat}{c:Nat->Nat->Bool}
theorem Tr.wp {α:Type}{cmp:Nat->Nat->(Bool->Shared->Prop)->Shared->Prop}{s:Shared}{R:α->Prop}{Q:α->Shared->Prop}(hc:∀ i j C,i<n->j<n->C (c i j) s->cmp i j C s)(hq:∀ a,R a->Q a s):∀ (t:KasT α),Tr n c R t->t.kasWp cmp Q s
 | .ret a,h=>hq a h
 | .ask i j k,⟨h1,h2,h3⟩=>hc i j _ h1 h2 (Tr.wp hc hq (k (c i j)) h3)
theorem Tr.bnd {α β:Type}{R:α->Prop}{R':β->Prop}{f:α->KasT β}(hf:∀ a,R a->Tr n c R' (f a)):∀ (t:KasT α),Tr n c R t->Tr n c R' (t.bind f)
 | .ret a,h=>hf a h
 | .ask i j k,⟨h1,h2,h3⟩=>⟨h1,h2,Tr.bnd hf (k (c i j)) h3⟩
end
section
variable {n:Nat}{O:KeyOrd}{X:Nat->O.α}
noncomputable def Kp (X:Nat->O.α)(p:Array Nat)(i:Nat):O.α:=X (p.getD i 0)
noncomputable def Pm (n:Nat)(p:Array Nat):Prop:=0<n/\List.Perm p.toList (List.range n)
theorem Pm.lt {p:Array Nat}(h:Pm n p)(i:Nat):p.getD i 0<n:=by
 rw[Array.getD_eq_getD_getElem?]
 cases e:p[i]? with
 | none=>exact h.1
 | some x =>
  rw[<-Array.getElem?_toList]at e
  exact ay.mp (h.2.mem_iff.mp (List.mem_of_getElem? e))
theorem Pm.size {p:Array Nat}(h:Pm n p):p.size=n:=by
 have:=h.2.length_eq
 simpa using this
theorem Pm.perm {p p':Array Nat}(h:Pm n p)(q:p'.Perm p):Pm n p':=⟨h.1,(Array.perm_iff_toList_perm.mp q).trans h.2⟩
noncomputable def Sor (X:Nat->O.α)(p:Array Nat)(k:Nat):Prop:=∀ i j,i<=j->j<k->O.kle (Kp X p i) (Kp X p j)
noncomputable def Non (X:Nat->O.α)(p:Array Nat)(k:Nat):Prop:=∀ i j,i<=j->j<k->O.kle (Kp X p j) (Kp X p i)
theorem zG {p:Array Nat}{i j:Nat}(hj:j<=p.size)(k:Nat):Kp X (kas_rev p i j) k=if i<=k/\k<j then Kp X p (i+j-1-k) else Kp X p k:=by
 unfold Kp kas_rev
 rw[Array.getD_eq_getD_getElem?,getElem?_mirror_all hj]
 split
 ·rw[Array.getD_eq_getD_getElem?]
 ·rw[Array.getD_eq_getD_getElem?]
theorem o5 {p:Array Nat}{i j:Nat}(hj:j<=p.size)(h:∀ k,i<=k->k<j->Kp X p k=Kp X p (j-1))(k:Nat):Kp X (kas_rev p i j) k=Kp X p k:=by
 rw[zG hj]
 split
 ·rw[h _ (by omega (config:={})) (by omega (config:={})),h k (by omega (config:={})) (by omega (config:={}))]
 ·rfl
theorem DQ {p:Array Nat}{src d:Nat}(hs:src<p.size)(hd:d<=src)(k:Nat):Kp X (bubble p src d) k=if k=src-d then Kp X p src else if src-d<k/\k<=src then Kp X p (k-1) else Kp X p k:=by
 have g:∀ (q:Array Nat) (i:Nat),Kp X q i=X ((q[i]?).getD 0):=λ q i=>by unfold Kp;rw[Array.getD_eq_getD_getElem?]
 rw[g,g,g,g,getElem?_bubble hs d hd]
 split
 ·rfl
 ·split<;>rfl
noncomputable abbrev cO (X:Nat->O.α):Nat->Nat->Bool:=λ i j=>O.blt (X i) (X j)
theorem DR {p:Array Nat}(P:Pm n p):∀ (f a:Nat),1<=a->Sor X p a->Tr n (cO X) (λ m=>a<=m/\m<=a+f/\Sor X p m/\(m=a+f\/O.klt (Kp X p m) (Kp X p (m-1)))) (kas_asc p f a)
 | 0,a,h1,h2=>⟨ag _,ag _,h2,.inl rfl⟩
 | f+1,a,h1,h2=>by
  refine⟨P.lt _,P.lt _,?_⟩
  show Tr n (cO X) _ (if O.blt (Kp X p a) (Kp X p (a-1))=true then .ret a else kas_asc p f (a+1))
  by_cases h:O.blt (Kp X p a) (Kp X p (a-1))=true
  ·rw[ae h]
   exact⟨ag _,by omega,h2,.inr h⟩
  ·rw[af h]
   have hk:O.kle (Kp X p (a-1)) (Kp X p a):=KeyOrd.kle_of_not_klt h
   have h3:Sor X p (a+1):=λ i j hij hj=>by
    by_cases hja:j<a
    ·exact h2 i j hij hja
    ·have:j=a:=by omega
     subst this
     by_cases hi:i=j
     ·subst hi;exact KeyOrd.kle_refl _
     ·exact KeyOrd.kle_trans (h2 i (j-1) (by omega) (by omega)) hk
   have:=DR P f (a+1) (by omega) h3
   refine(show ∀ (t:KasT Nat),Tr n (cO X) _ t->Tr n (cO X) _ t from ?_) _ this
   intro t
   induction t with
   | ret m=>intro ⟨x1,x2,x3,x4⟩;exact⟨by omega,by omega,x3,by rw[show a+(f+1)=a+1+f by omega];exact x4⟩
   | ask i j k ih=>intro ⟨y1,y2,y3⟩;exact⟨y1,y2,ih _ y3⟩
theorem kU {p:Array Nat}{m:Nat}(h:Non X p m)(h1:1<=m)(hk:O.kle (Kp X p m) (Kp X p (m-1))):Non X p (m+1):=λ i j hij hj=>by
 by_cases hjm:j<m
 ·exact h i j hij hjm
 ·have:j=m:=by omega
  subst this
  by_cases hi:i=j
  ·subst hi;exact KeyOrd.kle_refl _
  ·exact KeyOrd.kle_trans hk (h i (j-1) (by omega) (by omega))
noncomputable def KR (n:Nat)(X:Nat->O.α)(lo hi:Nat)(r:Array Nat×Nat×Nat):Prop:=Pm n r.1/\Non X r.1 r.2.1/\r.2.2+1<=r.2.1/\lo<=r.2.1/\r.2.1<=hi/\∀ i,r.2.1-(r.2.2+1)<=i->i<r.2.1->Kp X r.1 i=Kp X r.1 (r.2.1-1)
theorem vo:∀ (f:Nat) (p:Array Nat) (m q lo:Nat),Pm n p->m+f<=n->1<=m->lo<=m->Non X p m->q+1<=m->(∀ i,m-(q+1)<=i->i<m->Kp X p i=Kp X p (m-1))->Tr n (cO X) (KR n X lo (m+f)) (kas_desc f p m q)
 | 0,p,m,q,lo,P,hn,h1,hlo,h2,h3,h4=>⟨P,h2,h3,hlo,ag _,h4⟩
 | f+1,p,m,q,lo,P,hn,h1,hlo,h2,h3,h4=>by
  refine⟨P.lt _,P.lt _,?_⟩
  have one:∀ (p':Array Nat) i,m+1-(0+1)<=i->i<m+1->Kp X p' i=Kp X p' (m+1-1):=λ p' i a b=>by rw[show i=m by omega];rfl
  show Tr n (cO X) _ (if O.blt (Kp X p m) (Kp X p (m-1))=true then _ else _)
  rw[show m+(f+1)=m+1+f by omega]
  by_cases h:O.blt (Kp X p m) (Kp X p (m-1))=true
  ·rw[ae h]
   by_cases hq:q>0
   ·rw[ae hq]
    have hm:m<=p.size:=by rw[P.size];omega
    have ke:=o5 (X:=X) (p:=p) (i:=m-(q+1)) (j:=m) hm λ k a b=>h4 k a b
    refine vo f _ (m+1) 0 lo (P.perm (mirror_perm _ _ _ _)) (by omega) (by omega) (by omega) (kU (λ i j a b=>?_) h1 ?_) (by omega) (one _)
    ·rw[ke,ke];exact h2 i j a b
    ·rw[ke,ke];exact KeyOrd.kle_of_klt h
   ·rw[af hq]
    exact vo f p (m+1) 0 lo P (by omega) (by omega) (by omega) (kU h2 h1 (KeyOrd.kle_of_klt h)) (by omega) (one _)
  ·rw[af h]
   refine⟨P.lt _,P.lt _,?_⟩
   show Tr n (cO X) _ (if O.blt (Kp X p (m-1)) (Kp X p m)=true then _ else _)
   by_cases h':O.blt (Kp X p (m-1)) (Kp X p m)=true
   ·rw[ae h']
    exact⟨P,h2,h3,hlo,(show m<=m+1+f by omega),h4⟩
   ·rw[af h']
    have e:Kp X p m=Kp X p (m-1):=O.total _ _ (by simpa using h) (by simpa using h')
    refine vo f p (m+1) (q+1) lo P (by omega) (by omega) (by omega) (kU h2 h1 (by rw[e];exact KeyOrd.kle_refl _)) (by omega) λ i a b=>?_
    by_cases hi:i=m
    ·rw[hi];rfl
    ·rw[show m+1-1=m by omega,e]
     exact h4 i (by omega) (by omega)
noncomputable def I8 (n:Nat)(X:Nat->O.α)(r:Nat×Array Nat):Prop:=Pm n r.2/\Sor X r.2 r.1/\1<=r.1/\r.1<=n
theorem AZ {p:Array Nat}{m:Nat}(P:Pm n p)(h:Non X p m)(h1:1<=m)(hm:m<=n):Tr n (cO X) (I8 n X) (kas_tail3 m n p):=by
 have P1:Pm n (kas_rev p 0 m):=P.perm (mirror_perm _ _ _ _)
 refine Tr.bnd (λ a ⟨a1,a2,a3,_⟩=>⟨P1,a3,by omega,by omega⟩) _ (DR P1 (n-m) m h1 λ i j hij hj=>?_)
 have hz:m<=p.size:=by rw[P.size];exact hm
 rw[zG hz,zG hz,ae (by omega),ae (by omega)]
 exact h _ _ (by omega) (by omega)
theorem r8 {p:Array Nat}{m:Nat}(P:Pm n p)(h:Non X p (m+1))(hm:m+1<=n):Tr n (cO X) (I8 n X) (kas_descPart m n p):=by
 refine Tr.bnd (λ r hr=>?_) _ (vo (n-(m+1)) p (m+1) 0 (m+1) P (by omega) (by omega) (ag _) h (by omega) λ i a b=>by rw[show i=m by omega];rfl)
 obtain⟨P',N',q1,l1,u1,e1⟩:=hr
 by_cases hq:r.2.2>0
 ·rw[ae hq]
  have hz:r.2.1<=r.1.size:=by rw[P'.size];omega
  have ke:=o5 (X:=X) (p:=r.1) (i:=r.2.1-(r.2.2+1)) (j:=r.2.1) hz λ k a b=>e1 k a b
  refine AZ (P'.perm (mirror_perm _ _ _ _)) (λ i j a b=>?_) (by omega) (by omega)
  rw[ke,ke];exact N' i j a b
 ·rw[af hq]
  exact AZ P' N' (by omega) (by omega)
theorem F9 {p:Array Nat}(P:Pm n p):Tr n (cO X) (I8 n X) (kas_count n p):=by
 have hn:=P.1
 refine Tr.bnd (λ m ⟨m1,m2,m3,m4⟩=>?_) _ (DR P (n-1) 1 (ag _) λ i j hij hj=>by rw[show i=0 by omega,show j=0 by omega];exact KeyOrd.kle_refl _)
 by_cases he:m=n
 ·rw[ae (by simpa using he)]
  exact⟨P,m3,m1,by omega⟩
 ·rw[af (by simpa using he)]
  have hlt:O.klt (Kp X p m) (Kp X p (m-1)):=m4.resolve_left (by omega)
  by_cases h1:m>1
  ·rw[ae h1]
   refine⟨P.lt _,P.lt _,?_⟩
   show Tr n (cO X) _ (if O.blt (Kp X p 0) (Kp X p (m-1))=true then _ else _)
   by_cases h:O.blt (Kp X p 0) (Kp X p (m-1))=true
   ·rw[ae h]
    exact⟨P,m3,m1,by omega⟩
   ·rw[af h]
    have hle:O.kle (Kp X p (m-1)) (Kp X p 0):=KeyOrd.kle_of_not_klt h
    have hz:m<=p.size:=by rw[P.size];omega
    have all:∀ k,0<=k->k<m->Kp X p k=Kp X p (m-1):=λ k _ hk=>KeyOrd.kle_antisymm (m3 k (m-1) (by omega) (by omega)) (KeyOrd.kle_trans hle (m3 0 k (by omega) hk))
    have ke:=o5 (X:=X) (p:=p) (i:=0) (j:=m) hz all
    refine r8 (P.perm (mirror_perm _ _ _ _)) (kU (λ i j a b=>?_) m1 ?_) (by omega)
    ·rw[ke,ke,all i (by omega) (by omega),all j (by omega) b];exact KeyOrd.kle_refl _
    ·rw[ke,ke];exact KeyOrd.kle_of_klt hlt
  ·rw[af h1]
   have:m=1:=by omega
   subst this
   exact r8 P (kU (λ i j a b=>by rw[show i=0 by omega,show j=0 by omega];exact KeyOrd.kle_refl _) (ag _) (KeyOrd.kle_of_klt hlt)) (by omega)
theorem vp {p:Array Nat}{k:Nat}(P:Pm n p)(S:Sor X p k):∀ (f l r:Nat),l<=r->r<=k->r<=l+f->(∀ i,i<l->O.kle (Kp X p i) (Kp X p k))->(∀ i,r<=i->i<k->O.klt (Kp X p k) (Kp X p i)) ->
  Tr n (cO X) (λ m=>m<=k/\(∀ i,i<m->O.kle (Kp X p i) (Kp X p k))/\∀ i,m<=i->i<k->O.klt (Kp X p k) (Kp X p i)) (kas_place p k f l r)
 | 0,l,r,h1,h2,h3,h4,h5=>by
  have:l=r:=by omega
  subst this
  exact⟨h2,h4,h5⟩
 | f+1,l,r,h1,h2,h3,h4,h5=>by
  show Tr n (cO X) _ (if l≥r then .ret l else _)
  by_cases h:l≥r
  ·rw[ae h]
   have:l=r:=by omega
   subst this
   exact⟨h2,h4,h5⟩
  ·rw[af h]
   refine⟨P.lt _,P.lt _,?_⟩
   show Tr n (cO X) _ (if O.blt (Kp X p k) (Kp X p ((l+r) / 2))=true then _ else _)
   by_cases hc:O.blt (Kp X p k) (Kp X p ((l+r) / 2))=true
   ·rw[ae hc]
    refine vp P S f l ((l+r) / 2) (by omega) (by omega) (by omega) h4 λ i a b=>?_
    exact KeyOrd.klt_of_klt_of_kle hc (S _ i a b)
   ·rw[af hc]
    refine vp P S f ((l+r) / 2+1) r (by omega) h2 (by omega) (λ i a=>?_) h5
    exact KeyOrd.kle_trans (S i _ (by omega) (by omega)) (KeyOrd.kle_of_not_klt hc)
theorem HA:∀ (f:Nat) (p:Array Nat) (k:Nat),Pm n p->Sor X p k->k+f=n->Tr n (cO X) (λ p'=>Pm n p'/\Sor X p' n) (kas_bin f p k)
 | 0,p,k,P,S,h=>by
  have:k=n:=by omega
  subst this
  exact⟨P,S⟩
 | f+1,p,k,P,S,h=>by
  refine Tr.bnd (λ l ⟨l1,l2,l3⟩=>?_) _ (vp P S k 0 k (Nat.zero_le _) (ag _) (by omega) (λ i hi=>absurd hi (Nat.not_lt_zero _)) λ i a b=>by omega)
  refine HA f _ (k+1) (P.perm (bubble_perm _ _ _)) (λ i j hij hj=>?_) (by omega)
  have hk:k<p.size:=by rw[P.size];omega
  rw[DQ hk (by omega),DQ hk (by omega),show k-(k-l)=l by omega]
  by_cases e1:i=l
  ·rw[ae e1]
   by_cases e2:j=l
   ·rw[ae e2];exact KeyOrd.kle_refl _
   ·rw[af e2,ae (by omega)]
    exact KeyOrd.kle_of_klt (l3 (j-1) (by omega) (by omega))
  ·rw[af e1]
   by_cases e2:j=l
   ·rw[ae e2,af (by omega)]
    exact l2 i (by omega)
   ·rw[af e2]
    by_cases e3:l<i/\i<=k
    ·rw[ae e3,ae (by omega)]
     exact S _ _ (by omega) (by omega)
    ·rw[af e3]
     by_cases e4:l<j/\j<=k
     ·rw[ae e4]
      by_cases e5:j-1<l
      ·omega
      ·exact KeyOrd.kle_trans (l2 i (by omega)) (KeyOrd.kle_of_klt (l3 (j-1) (by omega) (by omega)))
     ·rw[af e4]
      exact S i j hij (by omega)
theorem I9 (hn:0<n):Tr n (cO X) (λ p=>Pm n p/\Sor X p n) (kas_sort n):=by
 have P0:Pm n (List.toArray (List.range n)):=⟨hn,List.Perm.refl _⟩
 refine Tr.bnd (λ r ⟨P,S,r1,r2⟩=>?_) _ (F9 P0)
 by_cases h:r.1<n
 ·rw[ae h,show max r.1 1=r.1 by omega]
  exact HA _ _ _ P S (by omega)
 ·rw[af h]
  have:r.1=n:=by omega
  exact⟨P,this▸S⟩
end
end Tb
namespace Tb
open PySem PySem.W PySem.Spec PyProof.Rows
theorem A0 {α:Type}(next:Nat->Nat):∀ (fuel k:Nat) (left:List α) (out:Array α),fuel=left.length->List.Perm (pickOrder.go next fuel k left out).toList (out.toList++left)
 | 0,k,left,out,h=>by
  have:left=[]:=List.length_eq_zero_iff.mp h.symm
  subst this
  unfold pickOrder.go
  simp
 | fuel+1,k,left,out,h=>by
  unfold pickOrder.go
  have hl:next k % left.length<left.length:=Nat.mod_lt _ (by omega)
  have e:left[next k % left.length]?=some left[next k % left.length]:=by simp[hl]
  rw[e]
  dsimp only
  refine(A0 next fuel (k+1) _ _ (by rw[List.length_eraseIdx_of_lt hl];omega)).trans ?_
  rw[Array.toList_push,List.append_assoc]
  refine List.Perm.append_left _ ?_
  have e2:left=left.take (next k % left.length)++left[next k % left.length]::left.drop (next k % left.length+1):=by
   rw[<-List.drop_eq_getElem_cons hl,List.take_append_drop]
  have e3:left.eraseIdx (next k % left.length)=left.take (next k % left.length)++left.drop (next k % left.length+1):=List.eraseIdx_eq_take_drop_succ _ _
  rw[e3]
  refine List.Perm.trans ?_ (List.Perm.of_eq e2.symm)
  rw[List.singleton_append]
  exact List.perm_middle.symm
theorem Cc {α:Type}(next:Nat->Nat)(xs:Array α):List.Perm (pickOrder next xs).toList xs.toList:=by
 unfold pickOrder
 have:=A0 next xs.size 0 xs.toList #[] (by simp)
 simpa using this
theorem r9 {xs:Array Nat}(R:Ri xs){j r:Nat}(h:Bel xs j r):SetTable.below xs j=r:=by
 obtain⟨a1,a2,a3⟩:=rT R j
 obtain⟨b1,b2,b3⟩:=h
 rcases Nat.lt_trichotomy (SetTable.below xs j) r with q | q | q
 ·have hl:SetTable.below xs j<xs.size:=by omega
  have e:xs[SetTable.below xs j]?=some xs[SetTable.below xs j]:=by simp[hl]
  have h1:=b2 _ _ q e
  have h2:=a3 _ _ (ag _) e
  omega
 ·exact q
 ·have hl:r<xs.size:=by omega
  have e:xs[r]?=some xs[r]:=by simp[hl]
  have h1:=a2 _ _ q e
  have h2:=b3 _ _ (ag _) e
  omega
theorem zH {xs:Array Nat}(R:Ri xs){i j:Nat}(e:xs[i]?=some j):SetTable.below xs (j+1)=i+1:=by
 have hi:=(Array.getElem?_eq_some_iff.mp e).1
 refine r9 R ⟨hi,λ k x hk ek=>?_,λ k x hk ek=>R i k j x hk e ek⟩
 by_cases q:k=i
 ·subst q;rw[e]at ek;cases ek;omega
 ·have:=R k i x j (by omega) ek e
  omega
theorem zI {xs:Array Nat}(R:Ri xs):SetTable.below xs 0=0:=r9 R ⟨Nat.zero_le _,λ k x hk=>absurd hk (Nat.not_lt_zero _),λ k x _ _=>Nat.zero_le _⟩
theorem eM:Slot "set_iterator" "__next__" "set_iterator.__next__" :=
 .of (owner:="set_iterator") (n:="__next__") (by rw[typeLookup_type,builtinLookup_eq_fast];kernel_rfl) (by decide +kernel) (by decide +kernel) (by decide +kernel) (by first | exact .inl (by decide +kernel) | exact .inr (by decide +kernel)) (by rw[isSubtype_type];kernel_rfl)
theorem ny:Slot "set_iterator" "__iter__" "set_iterator.__iter__" :=
 .of (owner:="set_iterator") (n:="__iter__") (by rw[typeLookup_type,builtinLookup_eq_fast];kernel_rfl) (by decide +kernel) (by decide +kernel) (by decide +kernel) (by first | exact .inl (by decide +kernel) | exact .inr (by decide +kernel)) (by rw[isSubtype_type];kernel_rfl)
theorem my:entryFor table "set_iterator.__next__"=some Builtin.«set_iterator.__next__»:=entryFor_of_tree (by kernel_rfl)
theorem tU:entryFor table "set_iterator.__iter__"=some Builtin.«dict_keyiterator.__iter__» :=
 entryFor_alias (id':="dict_keyiterator.__iter__") (by kernel_rfl) rfl (by decide +kernel)
  (by kernel_rfl)
theorem tV:entryFor table "set.__iter__"=some Builtin.«frozenset.__iter__» :=
 entryFor_alias (id':="frozenset.__iter__") (by kernel_rfl) rfl (by decide +kernel) (by kernel_rfl)
theorem xt:Manifest.owners.lookup (String.ofList ['r','o','t','a','r','e','t','i','_','t','e','s'].reverse)=some Manifest.sig_set_iterator:=by kernel_rfl
theorem nz (a:Value):argsOk "set_iterator.__next__" ⟨[a],[]⟩:=by
 unfold argsOk
 rw[signature?_of (id:="set_iterator.__next__") (n:=['_','_','t','x','e','n','_','_']) (o:=['r','o','t','a','r','e','t','i','_','t','e','s']) (by kernel_rfl) xt]
 kernel_rfl
theorem vq (a:Value):argsOk "set_iterator.__iter__" ⟨[a],[]⟩:=by
 unfold argsOk
 rw[signature?_of (id:="set_iterator.__iter__") (n:=['_','_','r','e','t','i','_','_']) (o:=['r','o','t','a','r','e','t','i','_','t','e','s']) (by kernel_rfl) xt]
 kernel_rfl
section
variable {prog:Program}{w:World}{A:Around}{E:Value->Shared->Prop}{s:Shared}{S I:Addr}{oS:Obj}{es:Array (Int×Value)}{ep:Nat}{t:SetTable}
noncomputable def seen (w:World)(S:Addr)(ep:Nat)(es:Array (Int×Value)):Array (Int×Value):=if w.params.followText "set-order"=true then pickOrder (w.params.setOrder S ep) es else es
theorem o6 (w:World)(S:Addr)(ep:Nat)(es:Array (Int×Value)):List.Perm (seen w S ep es).toList es.toList:=by
 unfold seen
 split
 ·exact Cc _ _
 ·exact List.Perm.refl _
noncomputable def SIt (w:World)(S I:Addr)(n ep:Nat)(t:SetTable)(i:Nat)(h:Heap):Prop:=∃ (o:Obj) (slot:Nat),h.get? I=some o/\o.cls=.type "set_iterator"/\o.data=.fields #[rawInt slot,rawInt i,.ref S,rawInt n,rawInt ep]/\(w.params.followText "set-order"=false->SetTable.below t.place slot=i)
theorem vv {Q:Bool->Shared->Prop}(h:Q (w.params.followText "set-order") s):wpAny (model prog w) A setsByText Q E s:=by
 unfold setsByText
 exact av (wpAny_askSetting (aw h))
theorem xu {Q:Option (Value×Nat)->Shared->Prop}{i slot:Nat}(hS:s.heap.get? S=some oS)(hd:oS.data=.set es ep t)(T:TOk t (es.toList.map (·.1)))(hp:t.plain=true)(hl:t.led=!(w.params.followText "set-order"))
  (hsl:w.params.followText "set-order"=false->SetTable.below t.place slot=i) (h0:(seen w S ep es)[i]?=none->Q none s)
  (h1:∀ hv v nx,(seen w S ep es)[i]?=some (hv,v)->(w.params.followText "set-order"=false->SetTable.below t.place nx=i+1)->Q (some (v,nx)) s):wpAny (model prog w) A (setNext S slot i ep) Q E s:=by
 have hfit:=fits_of T (n:=es.size) (by simp)
 unfold setNext
 refine av (wpAny_setState_of hS hd hfit ?_)
 dsimp only
 refine av (vv ?_)
 by_cases hb:w.params.followText "set-order"=true
 ·have sd:seen w S ep es=pickOrder (w.params.setOrder S ep) es:=by unfold seen;rw[ae hb]
  rw[ae hb]
  simp only[bne_self_eq_false,Bool.false_eq_true,if_false]
  unfold setWalk
  refine av (av (wpAny_setState_of hS hd hfit ?_))
  dsimp only
  refine av (vv ?_)
  rw[ae hb]
  refine av (wpAny_askSetting (aw ?_))
  refine aw ?_
  show Q (((pickOrder (w.params.setOrder S ep) es)[i]?).map λ e=>(e.2,slot)) s
  rw[<-sd]
  cases e:(seen w S ep es)[i]? with
  | none=>exact h0 e
  | some v=>exact h1 v.1 v.2 slot e λ z=>by rw[hb]at z;cases z
 ·have hb':w.params.followText "set-order"=false:=by simpa using hb
  have sd:seen w S ep es=es:=by unfold seen;rw[af hb]
  rw[af hb]
  have hdr:∀ {α:Type} {a b:Sem α} {R:α->Shared->Prop},wpAny (model prog w) A b R E s->wpAny (model prog w) A (if (!t.plain&&decide (es.size>1))=true then a else b) R E s:=λ hb=>by
   rw[hp];simpa using hb
  refine hdr ?_
  have hml:∀ {α:Type} {b:Unit->Sem α} {R:α->Shared->Prop},wpAny (model prog w) A (b ()) R E s->wpAny (model prog w) A ((if (!t.led&&!es.isEmpty)=true then unsupported "set:maker-not-led" else pure ())>>=b) R E s:=λ hb=>by
   rw[hl,hb']
   simp only[Bool.not_false,Bool.not_true,Bool.false_and,Bool.false_eq_true,if_false]
   exact av (aw hb)
  refine hml ?_
  rw[hsl hb']
  refine aw ?_
  rw[sd]at h0 h1
  have hpl:t.place.size=es.size:=by have:=T.sz;simpa using this
  by_cases hi:i<es.size
  ·have e1:es[i]?=some es[i]:=by simp[hi]
   have e2:t.place[i]?=some (t.place[i]'(by omega)):=by simp[show i<t.place.size by omega]
   rw[e1,e2]
   exact h1 es[i].1 es[i].2 _ e1 λ _=>zH T.ri e2
  ·have e1:es[i]?=none:=Array.getElem?_eq_none (by omega)
   rw[e1]
   exact h0 e1
theorem vx {i n:Nat}(x:SIt w S I n ep t i s.heap):s.TypeIs (.ref I) "set_iterator":=let ⟨o,_,ho,hc,_⟩:=x;⟨o,ho,hc⟩
theorem kX {Q:Array (Int×Value)->Shared->Prop}(hS:s.heap.get? S=some oS)(hd:oS.data=.set es ep t)(T:TOk t (es.toList.map (·.1)))(h:Q es s):wpAny (model prog w) A (setEntries S) Q E s:=by
 unfold setEntries
 exact av (wpAny_setState_of hS hd (fits_of T (by simp)) (aw h))
theorem F_ {i:Nat}{hv:Int}{v:Value}{Q:Option Value->Shared->Prop}(x:SIt w S I es.size ep t i s.heap)(hS:s.heap.get? S=some oS)(hd:oS.data=.set es ep t)(T:TOk t (es.toList.map (·.1)))(hp:t.plain=true)(hl:t.led=!(w.params.followText "set-order"))
  (hx:(seen w S ep es)[i]?=some (hv,v)) (hQ:∀ h',SIt w S I es.size ep t (i+1) h'->Heap.SameBut I s.heap h'->Q (some v) {s with heap:=h'}):wpAny (model prog w) A (pyNext (.ref I)) Q E s:=by
 have hT:=vx x
 obtain⟨o,slot,ho,hc,hdd,hsl⟩:=x
 unfold pyNext
 refine av (wpAny_attempt (wpAny_callSpecial?_slot (name:=Str.ofString "__next__") hT eM (wpAny_call_entry eM hT my ?_ (nz _))))
 unfold Builtin.«set_iterator.__next__»
 refine av (aw ?_)
 refine av (wpAny_fieldsOf ho hdd ?_)
 show wpAny _ _ (setEntries S>>=_) _ _ s
 refine av (kX hS hd T ?_)
 simp only[bne_self_eq_false,Bool.false_eq_true,if_false]
 show wpAny _ _ (setNext S slot i ep>>=_) _ _ s
 refine av (xu hS hd T hp hl hsl (λ z=>by rw[hx]at z;cases z) λ hv' v' nx e1 e2=>?_)
 rw[hx]at e1
 cases e1
 dsimp only
 refine av (wpAny_setField ho hdd (by simp) ?_)
 have ho1:=Heap.get?_update_self (Obj.mapFields (·.setIfInBounds 0 (rawInt nx))) ho (Obj.isFreed_of_fields (Obj.data_mapFields hdd _))
 have hd1:=Obj.data_mapFields hdd (·.setIfInBounds 0 (rawInt nx))
 refine av (wpAny_setField (s:={s with heap:=s.heap.update I (Obj.mapFields (·.setIfInBounds 0 (rawInt nx)))}) ho1 hd1 (by simp) ?_)
 have ho2:=Heap.get?_update_self (Obj.mapFields (·.setIfInBounds 1 (rawInt ((i:Int)+1)))) ho1 (Obj.isFreed_of_fields (Obj.data_mapFields hd1 _))
 refine aw ⟨_,rfl,aw (hQ _ ⟨_,nx,ho2,?_,?_,e2⟩ ((Heap.SameBut.update ..).trans (Heap.SameBut.update ..)))⟩
 ·rw[Obj.cls_mapFields,Obj.cls_mapFields];exact hc
 ·rw[Obj.data_mapFields hd1];simp[rawInt]
theorem I_ {i:Nat}{Q:Option Value->Shared->Prop}(hh:A.handled=none)(x:SIt w S I es.size ep t i s.heap)(hS:s.heap.get? S=some oS)(hd:oS.data=.set es ep t)(T:TOk t (es.toList.map (·.1)))(hp:t.plain=true)(hl:t.led=!(w.params.followText "set-order"))
  (hx:(seen w S ep es)[i]?=none) (hQ:∀ h',Heap.ExtBut I s.heap h'->Q none {s with heap:=h'}):wpAny (model prog w) A (pyNext (.ref I)) Q E s:=by
 have hT:=vx x
 obtain⟨o,slot,ho,hc,hdd,hsl⟩:=x
 unfold pyNext
 refine av (wpAny_attempt (wpAny_callSpecial?_slot (name:=Str.ofString "__next__") hT eM (wpAny_call_entry eM hT my ?_ (nz _))))
 unfold Builtin.«set_iterator.__next__»
 refine av (aw ?_)
 refine av (wpAny_fieldsOf ho hdd ?_)
 show wpAny _ _ (setEntries S>>=_) _ _ s
 refine av (kX hS hd T ?_)
 simp only[bne_self_eq_false,Bool.false_eq_true,if_false]
 show wpAny _ _ (setNext S slot i ep>>=_) _ _ s
 refine av (xu hS hd T hp hl hsl (λ _=>?_) λ hv' v' nx e1 e2=>by rw[hx]at e1;cases e1)
 dsimp only
 refine av (wpAny_setField ho hdd (by simp) ?_)
 show wpAny _ _ (newExc (.type "StopIteration") []>>=_) _ _ _
 refine av ?_
 simp only[newExc,newTuple]
 refine av (wpAny_newObj_type ?_ (by size_fits))
 refine av (m:=firstArgMember _ _) (wpAny_of_eq (a:=Value.none) (by first | rfl | (simp only[firstArgMember];rfl)) ?_)
 refine wpAny_newObj_type ?_ (by size_fits)
 simp only[raiseNew]
 refine av (wpAny_handled ?_)
 rw[show A.in1.handled=none from hh]
 refine av (aw (wpAny_throw ?_))
 refine av (wpAny_isInstance (T:="StopIteration") (b:=true) ⟨_,aG _ rfl,rfl⟩ isSubtype_stop ?_)
 exact aw (hQ _ (((Heap.SameBut.update ..).extBut.push _).push _))
theorem DS (hh:A.handled=none)(hne:S≠I)(hd:oS.data=.set es ep t)(T:TOk t (es.toList.map (·.1)))(hp:t.plain=true)(hl:t.led=!(w.params.followText "set-order")) :
  Walks prog w A I [I,S] [I] es.size (λ i v=>∃ hv,(seen w S ep es)[i]?=some (hv,v)) (λ i h=>SIt w S I es.size ep t i h/\h.get? S=some oS) where
 sub:=λ b hb=>by simp at hb;simp[hb]
 frame:=λ i h h' st hk=>⟨let ⟨o,sl,ho,r⟩:=st.1;⟨o,sl,hk I (by simp) o ho,r⟩,hk S (by simp) oS st.2⟩
 item:=λ i s Q E hi st hQ=>by
  have hz:(seen w S ep es).size=es.size:=by have:=(o6 w S ep es).length_eq;simpa using this
  have e:(seen w S ep es)[i]?=some (seen w S ep es)[i]:=by simp[hz,hi]
  exact F_ st.1 st.2 hd T hp hl (hv:=(seen w S ep es)[i].1) (v:=(seen w S ep es)[i].2) e λ h' st' sb =>
   hQ _ h' s.toks ⟨_,e⟩ ⟨st',(sb.2 S hne).trans st.2⟩ λ b o hb q=>(sb.2 b (by simpa using hb)).trans q
 done:=λ s Q E st hQ=>by
  have hz:(seen w S ep es).size=es.size:=by have:=(o6 w S ep es).length_eq;simpa using this
  exact I_ hh st.1 st.2 hd T hp hl (Array.getElem?_eq_none (by omega)) λ h' eb=>hQ h' s.toks λ b o hb q=>eb b o (by simpa using hb) q
 self:=λ i s Q E st hQ=>by
  have hT:=vx st.1
  refine wpAny_pyIter_slot hT ny (wpAny_call_entry ny hT tU ?_ (vq _))
  unfold Builtin.«dict_keyiterator.__iter__»
  refine av (aw ?_)
  exact aw ⟨_,rfl,"set_iterator",_,hT,eM.lookup,hQ⟩
end
end Tb
namespace L2
open PySem PySem.Spec PyProof.Rows
noncomputable def zJ (env:Env):List (Str×NameKind)->List (Str×Addr)->List (Str×Addr)
 | [],cs=>cs
 | (n,k)::r,cs=>zJ env r (if k==.free then (n,(env.cells.lookup n).getD 0)::cs else cs)
noncomputable def tW (scope:Scope)(env:Env):List (Str×Addr):=zJ env scope.names []
theorem r_ {scope:Scope}{env:Env}(h:∀ x∈scope.names,x.2=.free->∃ c,env.cells.lookup x.1=some c):closureFor scope env=pure (tW scope env):=by
 unfold closureFor tW
 generalize scope.names=l at h ⊢
 generalize hcs:([]:List (Str×Addr))=cs
 clear hcs
 induction l generalizing cs with
 | nil=>simp only[zJ,List.forIn_nil,pure_bind]
 | cons a r ih =>
  obtain⟨n,k⟩:=a
  have ih':=λ cs=>ih (λ x hx=>h x (ak _ hx)) cs
  simp only[List.forIn_cons,zJ]
  by_cases e:k=.free
  ·subst e
   obtain⟨c,hc⟩:=h (n,.free) ai rfl
   have hc:env.cells.lookup n=some c:=hc
   simp only[cellOf,hc,beq_self_eq_true,if_true,Option.getD_some,pure_bind]
   exact ih' _
  ·have e':(k==NameKind.free)=false:=beq_eq_false_iff_ne.mpr e
   simp only[e',Bool.false_eq_true,if_false,pure_bind]
   exact ih' _
theorem xw {env:Env}:∀ (l:List (Str×NameKind)) (cs:List (Str×Addr)),(∀ x∈l,x.2=.free->∃ c,env.cells.lookup x.1=some c)->(∀ x c,cs.lookup x=some c->env.cells.lookup x=some c) ->
  ∀ x c,(zJ env l cs).lookup x=some c->env.cells.lookup x=some c
 | [],_,_,h2,x,c,e=>h2 x c e
 | (n,k)::r,cs,h1,h2,x,c,e=>by
  refine xw r _ (λ y hy=>h1 y (ak _ hy)) (λ y d q=>?_) x c e
  by_cases hk:k=.free
  ·subst hk
   obtain⟨d',hd⟩:=h1 (n,.free) ai rfl
   have hd:env.cells.lookup n=some d':=hd
   rw[ae (by decide),hd,Option.getD_some,List.lookup_cons]at q
   cases hx:y==n with
   | true =>
    rw[hx]at q
    have:y=n:=by simpa using hx
    subst this
    cases q;exact hd
   | false=>rw[hx]at q;exact h2 y d q
  ·rw[af (by simpa using hk)]at q;exact h2 y d q
theorem uJ {env:Env}:∀ (l:List (Str×NameKind)) (cs:List (Str×Addr)) (x:Str),(∃ c,cs.lookup x=some c)->∃ c,(zJ env l cs).lookup x=some c
 | [],_,_,h=>h
 | (n,k)::r,cs,x,h=>by
  refine uJ r _ x ?_
  split
  ·rw[List.lookup_cons]
   cases hx:x==n with
   | true=>exact⟨_,rfl⟩
   | false=>exact h
  ·exact h
theorem xx {env:Env}:∀ (l:List (Str×NameKind)) (cs:List (Str×Addr)) (x:Str),(x,NameKind.free)∈l->∃ c,(zJ env l cs).lookup x=some c
 | (n,k)::r,cs,x,h=>by
  rcases ar.mp h with e | h
  ·have e1:x=n:=congrArg Prod.fst e
   have e2:NameKind.free=k:=congrArg Prod.snd e
   refine uJ r _ x ?_
   rw[<-e2,<-e1,ae (by decide),List.lookup_cons]
   simp
  ·exact xx r _ x h
theorem kY {env:Env}:∀ {names:List (Str×NameKind)} {x:Str} {k:NameKind},
  (names.map λ(n,k)=>if (k==NameKind.free&&env.scope.kind==.function&&env.kindOf n==some .cell) then (n,NameKind.cell) else (n,k)).lookup x=some k ->
  ∃ k0,(x,k0)∈names/\names.lookup x=some k0/\(k=k0\/(k0=.free/\k=.cell))
 | [],_,_,h=>by simp at h
 | (n,k')::r,x,k,h=>by
  have h:List.lookup x ((if (k'==NameKind.free&&env.scope.kind==.function&&env.kindOf n==some .cell)=true then (n,NameKind.cell) else (n,k'))::_)=_:=h
  cases hx:x==n with
  | true =>
   have e:x=n:=by simpa using hx
   subst e
   by_cases hc:(k'==NameKind.free&&env.scope.kind==.function&&env.kindOf x==some .cell)=true
   ·rw[ae hc,List.lookup_cons,hx]at h
    simp at hc
    cases h
    exact⟨k',ai,by rw[List.lookup_cons,hx],.inr ⟨hc.1.1,rfl⟩⟩
   ·rw[af hc,List.lookup_cons,hx]at h
    cases h
    exact⟨k',ai,by rw[List.lookup_cons,hx],.inl rfl⟩
  | false =>
   have h':List.lookup x (r.map λ(n,k)=>if (k==NameKind.free&&env.scope.kind==.function&&env.kindOf n==some .cell) then (n,NameKind.cell) else (n,k))=some k:=by
    by_cases hc:(k'==NameKind.free&&env.scope.kind==.function&&env.kindOf n==some .cell)=true
    ·rw[ae hc,List.lookup_cons,hx]at h;exact h
    ·rw[af hc,List.lookup_cons,hx]at h;exact h
   obtain⟨k0,m0,l0,o0⟩:=kY h'
   exact⟨k0,ak _ m0,by rw[List.lookup_cons,hx];exact l0,o0⟩
theorem i6 {env:Env}:∀ {names:List (Str×NameKind)} {x:Str},names.lookup x=some .free ->
  (names.map λ(n,k)=>if (k==NameKind.free&&env.scope.kind==.function&&env.kindOf n==some .cell) then (n,NameKind.cell) else (n,k)).lookup x=some .free \/
  (names.map λ(n,k)=>if (k==NameKind.free&&env.scope.kind==.function&&env.kindOf n==some .cell) then (n,NameKind.cell) else (n,k)).lookup x=some .cell
 | [],_,h=>by simp at h
 | (n,k')::r,x,h=>by
  show List.lookup x ((if (k'==NameKind.free&&env.scope.kind==.function&&env.kindOf n==some .cell)=true then (n,NameKind.cell) else (n,k'))::_)=_\/List.lookup x ((if (k'==NameKind.free&&env.scope.kind==.function&&env.kindOf n==some .cell)=true then (n,NameKind.cell) else (n,k'))::_)=_
  cases hx:x==n with
  | true =>
   rw[List.lookup_cons,hx]at h
   cases h
   by_cases hc:(NameKind.free==NameKind.free&&env.scope.kind==.function&&env.kindOf n==some .cell)=true
   ·rw[ae hc,List.lookup_cons,hx];exact .inr rfl
   ·rw[af hc,List.lookup_cons,hx];exact .inl rfl
  | false =>
   rw[List.lookup_cons,hx]at h
   by_cases hc:(k'==NameKind.free&&env.scope.kind==.function&&env.kindOf n==some .cell)=true
   ·rw[ae hc,List.lookup_cons,hx];exact i6 h
   ·rw[af hc,List.lookup_cons,hx];exact i6 h
structure fZ (X:Cx)(scope:Scope)(own fr:List Str)(ix:List Nat):Prop where
 kind:scope.kind=.function
 loc:∀ x∈scope.names,x.2=.local->scope.names.lookup x.1=some .local
 DT:∀ x∈scope.names,x.2≠.cell
 free:∀ x∈scope.names,x.2=.free->X.env.kindOf x.1=some .cell\/X.env.kindOf x.1=some .free
 NR:∀ x∈own,scope.names.lookup x=some .local
 fr':∀ x∈fr,scope.names.lookup x=some .free
 ix':ix.map (λ i=>X.N[i]?)=fr.map some
 nd:(own++fr).Nodup
noncomputable def Cx.comp (X:Cx)(N:List Str)(scope:Scope)(C:Addr)(s:Shared)(H:Hp)(fp:List Addr):Cx :=
 {X with N:=N,s₀:=s,H₀:=H,env:=compEnvC scope (tW scope X.env) C X.env,outer:=X.stack,stack:=X.stack,ex:=fp,fn:=λ _=>false,pn:=[],xe:=λ _ _=>False}
noncomputable def d3 (own:List Str)(ix:List Nat)(σ:St):St:=own.map (λ _=>none)++ix.map λ i=>(σ[i]?).getD none
noncomputable def PF (X:Cx)(ifs:List Expr)(t:TT):Prop :=
 ∀ (pins:List (Addr×Obj)) (s:Shared) (σ:St) (H:Hp) (Q:Bool->Hp->Prop),Inv X pins σ H s->t σ H Q ->
  wpAny (model X.prog X.w) X.A (forIn ifs true λ c r=>if r=true then do let ok<-isTrue c X.env (eval c X.env);pure (ForInStep.yield ok) else pure (ForInStep.yield r)) (TP X pins σ Q) X.xe s
noncomputable def DU:TT:=λ _ H Q=>Q true H
theorem zK {X:Cx}:PF X [] DU:=λ _ _ _ H _ I h=>wpAny_tests_nil ⟨H,I,h⟩
theorem Ja {X:Cx}{c:Expr}{t:TT}(h:PT X c t):PF X [c] t:=λ pins s σ H Q I q=>wpAny_tests_one (h pins s σ H Q I q)
theorem vy {prog:Program}{w:World}{A:Around}{R:Result->Shared->Prop}{s:Shared}{elt target iter:Expr}{ifs:List Expr}{scope:Scope}{pos:Pos}{it acc:Value}{env:Env}(I:Nat->Shared->Prop)
  (turn:∀ n s,I n s->wpAny (model prog w) A (pyNext it) (λ r s₁=>match r with
   | none=>R (.ok .next) s₁
   | some v=>wpAny (model prog w) A (letOwnedTupleGo target it v) (λ _ s₁'=>wpAny (model prog w) A (assign target env v) (λ _ s₂ =>
     wpAny (model prog w) A (forIn ifs true λ c r=>if r=true then do let ok<-isTrue c env (eval c env);pure (ForInStep.yield ok) else pure (ForInStep.yield r)) (λ ok s₃ =>
      if ok=true then wpAny (model prog w) A (eval elt env) (λ x s₄ =>
       wpAny (model prog w) A (call (.builtin "list.append") [acc,x]) (λ _ s₅=>∃ m,m<n/\I m s₅) (λ _ _=>False) s₄) (λ _ _=>False) s₃
      else ∃ m,m<n/\I m s₃) (λ _ _=>False) s₂) (λ _ _=>False) s₁') (λ _ _=>False) s₁) (λ _ _=>False) s)
  (n:Nat) (h:I n s) :
  codeAny (model prog w) A (.compLoop (.ListComp elt [⟨target,iter,ifs,0⟩] scope pos) 0 it acc env) R s:=by
 refine codeAny_loop rfl I (λ n s hI=>?_) n h
 show wpAny _ A ((compTurn (.ListComp elt [⟨target,iter,ifs,0⟩] scope pos) 0 it acc env).onRaise (λ x=>do noteFrame x env;theTreesLotGoes x)) _ _ s
 refine wpAny_noted ?_
 rw[compTurn_list]
 have nox:∀ {α:Type} {t:Sem α} {Q Q':α->Shared->Prop} {E:Value->Shared->Prop} {s:Shared},wpAny (model prog w) A t Q (λ _ _=>False) s->(∀ a s,Q a s->Q' a s)->wpAny (model prog w) A t Q' E s:=λ h hq=>wpAny_mono h hq λ _ _ z=>z.elim
 refine av (wpAny_standAt (av (nox (turn n s hI) λ r s₁ h₁=>?_)))
 cases r with
 | none=>exact aw h₁
 | some v =>
  refine av (nox h₁ λ _ s₁' h₁'=>av (nox h₁' λ _ s₂ h₂=>av (nox h₂ λ ok s₃ h₃=>?_)))
  cases ok with
  | false=>exact aw ⟨rfl,h₃⟩
  | true=>exact av (av (nox h₃ λ x s₄ h₄=>av (nox h₄ λ _ s₅ h₅=>aw (aw ⟨rfl,h₅⟩))))
section
variable {X:Cx}{pins:List (Addr×Obj)}{σ:St}{H:Hp}{s:Shared}{own fr:List Str}{ix:List Nat}{scope:Scope}
theorem fZ.cells (S:fZ X scope own fr ix)(ok:X.Ok):∀ x∈scope.names,x.2=.free->∃ c,X.env.cells.lookup x.1=some c:=λ x hx e=>ok.has x.1 (S.free x hx e)
theorem fZ.sub (S:fZ X scope own fr ix)(ok:X.Ok):∀ x c,(tW scope X.env).lookup x=some c->X.env.cells.lookup x=some c :=
 xw scope.names [] (S.cells ok) (λ x c e=>by simp at e)
theorem fZ.KS (S:fZ X scope own fr ix){x:Str}(h:(relabel scope X.env).names.lookup x=some .cell\/(relabel scope X.env).names.lookup x=some .free):∃ c,(tW scope X.env).lookup x=some c:=by
 have go:∀ k,(k=.cell\/k=.free)->(relabel scope X.env).names.lookup x=some k->∃ c,(tW scope X.env).lookup x=some c:=λ k hk e=>by
  obtain⟨k0,m0,l0,o0⟩:=kY e
  have:k0=.free:=by
   rcases o0 with o0 | o0
   ·rcases hk with z | z
    ·exact absurd (o0▸z) (S.DT (x,k0) m0)
    ·exact o0▸z
   ·exact o0.1
  subst this
  exact xx scope.names [] x m0
 rcases h with h | h
 ·exact go _ (.inl rfl) h
 ·exact go _ (.inr rfl) h
theorem Inv.enter (I:Inv X pins σ H s)(S:fZ X scope own fr ix){fp:List Addr}(hf:∀ b∈fp,oO X pins H b)(hlt:∀ b∈fp,b<s.heap.objs.size){C:Addr}{h':Heap}{tk:Nat}{m:Str->Option Value}(hC:s.heap.objs.size<=C)(hns:h'.Ns C m)
  (k:∀ b o,s.heap.get? b=some o->h'.get? b=some o):Inv (X.comp (own++fr) scope C s H fp) [] (d3 own ix σ) H {s with heap:=h',toks:=tk}:=by
 have subS:∀ b,b∈frs X.stack->b∈X.env.locals::X.fs:=I.vc
 have cl:=S.sub I.ok
 have cellAt:∀ x c,(tW scope X.env).lookup x=some c->∃ v,h'.IsCell c v:=λ x c e=>by
  obtain⟨v,o,ho,hd⟩:=I.cell x c (cl x c e)
  exact⟨v,o,k c o ho,hd⟩
 refine⟨⟨I.ok.mod,S.kind,I.ok.glob,I.ok.blt,hC,λ x y c h1 h2=>I.ok.inj x y c (cl x c h1) (cl y c h2),λ x hx=>S.KS hx,λ x c h=>absurd h (by simp[Cx.comp]),I.ok.hd,I.ok.frames,.inl rfl,λ b hb=>⟨?_,λ x c e=>(hf b hb).2.2.2.2.1 x c (cl x c e)⟩,I.bs,Nat.le_trans I.ok.bsz I.sz,λ b o e hb=>?_,λ b hb z=>?_,I.stack,I.AA⟩,
  rfl,I.bare,Un.kept k,⟨m,hns,λ i x v e1 e2 e3=>?_⟩,cellAt,I.hok.fresh hC,λ x c e=>I.g9 x c (cl x c e),λ p hp=>absurd hp (by simp[Cx.comp]),I.hok.kept k,?_⟩
 ·exact Nat.ne_of_lt (aB (hlt b hb) hC)
 ·rcases (hf b hb).2.2.2.1 with z | z
  ·exact I.ok.BR b o e z
  ·exact absurd (aB (au e) (Nat.le_trans I.ok.bsz z)) (Nat.lt_irrefl _)
 ·rcases ar.mp (subS b z) with q | q
  ·exact(hf b hb).2.1 q
  ·exact(hf b hb).2.2.1 q
 ·have e1:(own++fr)[i]?=some x:=e1
  have hi:own.length<=i:=by
   refine Nat.le_of_not_lt λ hlt'=>?_
   unfold d3 at e2
   rw[List.getElem?_append_left (by simpa using hlt'),List.getElem?_map]at e2
   cases q:own[i]? with
   | none=>rw[q]at e2;cases e2
   | some a=>rw[q]at e2;cases e2
  rw[List.getElem?_append_right hi]at e1
  unfold d3 at e2
  rw[List.getElem?_append_right (by simpa using hi),List.getElem?_map,ah]at e2
  cases q:ix[i-own.length]? with
  | none=>rw[q]at e2;cases e2
  | some i' =>
   rw[q]at e2
   have e2:(σ[i']?).getD none=some v:=ao e2
   have e3':σ[i']?=some (some v):=by
    cases r:σ[i']? with
    | none=>rw[r]at e2;cases e2
    | some w=>rw[r]at e2;exact congrArg some e2
   have eN:X.N[i']?=some x:=by
    have:=congrArg (λ l=>l[i-own.length]?) S.ix'
    simp only[List.getElem?_map,q,e1,Option.map_some]at this
    exact ao this
   have hfr:=S.fr' x (List.mem_of_getElem? e1)
   have hk:=S.free (x,.free) (PySem.mem_of_lookup hfr) rfl
   obtain⟨m0,_,hl0⟩:=I.loc
   obtain⟨u,ru,lk⟩:=hl0 i' x v eN e3' (.inr hk)
   refine⟨u,ru,.inr ⟨(i6 (env:=X.env) hfr).symm,?_⟩⟩
   rcases lk with⟨hk',_⟩ | ⟨_,c,hc,hcell⟩
   ·rcases hk with hk | hk<;>(rw[hk']at hk;cases hk)
   ·obtain⟨c',hc'⟩:=S.KS (x:=x) (i6 (env:=X.env) hfr).symm
    have:=cl x c' hc'
    rw[hc]at this
    cases this
    obtain⟨o,ho,hd⟩:=hcell
    exact⟨c,hc',o,k c o ho,hd⟩
 ·show(d3 own ix σ).length=(own++fr).length
  have:=congrArg List.length S.ix'
  simp only[ah]at this
  simp[d3,this]
theorem Inv.xA {D:Addr}{o:HO}(I:Inv X pins σ H s)(hn:H D=none)(hs:X.s₀.heap.objs.size<=D)(hL:D≠X.env.locals)(hc:∀ x c,X.env.cells.lookup x=some c->c≠D)(hp:∀ p∈X.pn++pins,p.1≠D)
  (new:cE X.prog X.w (upd H D o) s.heap D o):Inv X pins σ (upd H D o) s:=by
 have ne:∀ b u,H b=some u->b≠D:=λ b u e z=>by rw[z,hn]at e;cases e
 refine⟨I.ok,I.os,I.bare,⟨I.base.keep,I.base.slot,λ b ob e n hx=>?_,I.base.there,λ b xs e=>?_,λ b ob u e=>?_,λ b ps e=>?_⟩,I.loc,I.cell,?_,λ x c e=>?_,λ p hp'=>?_,λ b u e=>?_,I.len⟩
 ·have:b≠D:=Nat.ne_of_lt (aB (au e) hs)
  rw[aV this];exact I.base.free b ob e n hx
 ·have q:=I.base.jE b xs e
  rw[aV (ne _ _ q)];exact q
 ·have q:=I.base.jn b ob u e
  rw[aV (ne _ _ q)];exact q
 ·obtain⟨more,q⟩:=I.base.mJ b ps e
  exact⟨more,by rw[aV (ne _ _ q)];exact q⟩
 ·rw[aV hL.symm];exact I.free
 ·rw[aV (hc x c e)];exact I.g9 x c e
 ·obtain⟨a1,a2,a3⟩:=I.pin p hp'
  exact⟨a1,by rw[aV (hp p hp')];exact a2,a3⟩
 ·by_cases hb:b=D
  ·subst hb;rw[aU]at e;cases e;exact new
  ·rw[aV hb]at e
   exact(I.hok b u e).tQ (λ c v _ q=>q) (λ c q=>by rw[aV (ne _ _ q)];exact q) λ c xs q=>by rw[aV (ne _ _ q)];exact q
end
noncomputable def zL (n:Nat)(g:TG):Prop:=∀ x σ H (Q:St->Hp->Prop),g x σ H Q->g x σ H λ σ2 H2=>(∀ j,n<=j->σ2[j]?=σ[j]?)/\σ2.length=σ.length/\Q σ2 H2
noncomputable def A1 (n:Nat)(g:TGs):Prop:=∀ xs σ H (Q:St->Hp->Prop),g xs σ H Q->g xs σ H λ σ2 H2=>(∀ j,n<=j->σ2[j]?=σ[j]?)/\σ2.length=σ.length/\Q σ2 H2
theorem cA {n i:Nat}(h:i<n:=by decide):zL n (bT i):=λ x σ H Q q=>⟨λ j hj=>List.getElem?_set_ne (by omega),by simp,q⟩
theorem f6 {n:Nat}:A1 n BU:=λ xs σ H Q ⟨e,q⟩=>⟨e,λ _ _=>rfl,rfl,q⟩
theorem cb {n i:Nat}{u:TGs}(h:i<n)(h2:A1 n u):A1 n (mr (bT i) u):=λ xs σ H Q ⟨v,r,e,q⟩=>by
 refine⟨v,r,e,?_⟩
 have q2:=h2 r (σ.set i (some v)) H Q q
 have q3:=h2 r (σ.set i (some v)) H _ q2
 show u r (σ.set i (some v)) H _
 refine Eq.mp ?_ q2
 congr 1
 funext σ2 H2
 simp only[List.length_set]
 refine propext ⟨λ⟨a,b,c⟩=>⟨λ j hj=>(a j hj).trans (List.getElem?_set_ne (by omega)),b,c⟩,λ⟨a,b,c⟩=>⟨λ j hj=>(a j hj).trans (List.getElem?_set_ne (by omega)).symm,b,c⟩⟩
theorem iG {n k:Nat}{K:PySem.W.Frag}{t:TGs}(h:A1 n t):zL n (BV K k t):=λ x σ H Q ⟨a,xs,e,h1,h2,q⟩=>⟨a,xs,e,h1,h2,h xs σ H Q q⟩
noncomputable def tLC (own:List Str)(ix:List Nat)(wi:TI)(g:TG)(tc:TT)(te:TE):TE:=λ σ H Q=>wi σ H λ J H1=>∃ W:Nat->Nat->List V->Hp->Prop,(∃ m,W 0 m [] H1)/\∀ i m ys H,W i m ys H ->
 (J.stop i H/\∀ p,H p=none->Q (.ref p) (upd H p (.lst ys))) \/
 (J.go i H/\ys.length<sizeLine/\∀ x H',J.yld i H x H'->g x (d3 own ix σ) H' λ σ2 H2=>tc σ2 H2 λ b H3=>if b=true then te σ2 H3 λ y H4=>∃ m',m'<m/\W (i+1) m' (ys++[y]) H4 else ∃ m',m'<m/\W (i+1) m' ys H3)
section
variable {X:Cx}{pins:List (Addr×Obj)}{σ:St}{H:Hp}{s:Shared}{own fr:List Str}{ix:List Nat}{scope:Scope}{tg iter elt:Expr}{ifs:List Expr}{pos:Pos}{g:TG}{tc:TT}{te:TE}
theorem xB (I:Inv X pins σ H s)(hc:X.calm=true)(S:fZ X scope own fr ix){J:It}{fp:List Addr}{it:Addr}{tn:Nat->Heap->Prop}(T:Turn X.prog X.w X.K tg J fp it tn)(st:tn 0 s.heap)(hf:∀ b∈fp,oO X pins H b)
  (hg:∀ C,PG (X.comp (own++fr) scope C s H fp) tg g) (hgo:zL own.length g) (ht:∀ C,PF (X.comp (own++fr) scope C s H fp) ifs tc) (he:∀ C,PE (X.comp (own++fr) scope C s H fp) elt te)
  {Qe:VK} {W:Nat->Nat->List V->Hp->Prop} {m0:Nat} (w0:W 0 m0 [] H) (turn:∀ i m ys H,W i m ys H ->
   (J.stop i H/\∀ p,H p=none->Qe (.ref p) (upd H p (.lst ys))) \/
   (J.go i H/\ys.length<sizeLine/\∀ x H',J.yld i H x H'->g x (d3 own ix σ) H' λ σ2 H2=>tc σ2 H2 λ b H3=>if b=true then te σ2 H3 λ y H4=>∃ m',m'<m/\W (i+1) m' (ys++[y]) H4 else ∃ m',m'<m/\W (i+1) m' ys H3))
  {E:Value->Shared->Prop} {RR:Value->Addr->Result->Shared->Prop}
  (fin:∀ D C s' H',Inv X pins σ H' s'->Qe (.ref D) H'->s.heap.objs.size<=C->H' C=none->(∃ m,s'.heap.Ns C m)->RR (.ref D) C (.ok .next) s') :
  wpAny (model X.prog X.w) X.A (newList []) (λ acc s₃=>wpAny (model X.prog X.w) X.A (newFunctionEnv scope X.env.globals (tW scope X.env) [] X.env.qual none .none (some X.env)) (λ cenv s₄ =>
   codeAny (model X.prog X.w) X.A (.compStart (.ListComp elt [⟨tg,iter,ifs,0⟩] scope pos) 0 (.ref it) acc {cenv with scope:=relabel scope X.env}) (RR acc cenv.locals) s₄) E s₃) E s:=by
 refine wpAny_newObj_type (wpAny_newFunctionEnv S.DT (by intro y hy;simp at hy) (λ h₁ hns₁ hsb₁=>?_) S.kind)
 dsimp only at hns₁ hsb₁ ⊢
 generalize hH2:s.heap.push {cls:=.type "list",dict:=none,data:=.seq ([]:List Value).toArray}=H2 at hns₁ hsb₁ ⊢
 have hC:H2.objs.size=s.heap.objs.size+1:=by rw[<-hH2,Heap.size_push]
 have hDC:s.heap.objs.size≠H2.objs.size:=by rw[hC];exact Nat.ne_of_lt (Nat.lt_succ_self _)
 have hCle:s.heap.objs.size<=H2.objs.size:=by rw[hC];exact Nat.le_succ _
 have below:∀ b,b<s.heap.objs.size->b≠H2.objs.size/\b≠s.heap.objs.size:=λ b hb=>⟨by rw[hC];exact Nat.ne_of_lt (Nat.lt_succ_of_lt hb),Nat.ne_of_lt hb⟩
 have old:∀ b o,s.heap.get? b=some o->h₁.get? b=some o:=λ b o e=>hsb₁.extBut b o (below b (au e)).1 (aC _ (hH2▸aC _ e))
 have hacc:h₁.PlainList s.heap.objs.size #[]:=⟨_,hsb₁.extBut _ _ hDC (aC _ (hH2▸aG _ rfl))⟩
 have hlt:∀ b∈fp,b<s.heap.objs.size:=λ b hb=>by
  obtain⟨o,e,_⟩:=T.obj 0 s.heap st b hb
  exact au e
 generalize hCC:H2.objs.size=C at *
 generalize hDD:s.heap.objs.size=D at *
 have hDs:s.heap.objs.size<=D:=Nat.le_of_eq hDD
 have I0:Inv (X.comp (own++fr) scope C s H fp) [] (d3 own ix σ) H {s with heap:=h₁,toks:=s.toks+([]:List (Str×Value)).length}:=I.enter S hf (by rw[hDD];exact hlt) (by rw[hDD];exact hCle) hns₁ old
 have st0:tn 0 h₁:=T.keep 0 _ _ st λ b _ o e=>old b o e
 have nfs:D∉frs X.stack:=λ z=>by
  obtain⟨_,o,ho,_⟩:=I.stack.mem z
  exact absurd (au ho) (by rw[hDD];exact Nat.lt_irrefl _)
 have ncell:∀ x c,(tW scope X.env).lookup x=some c->c≠D:=λ x c e z=>by
  obtain⟨v,q⟩:=I.cell x c (S.sub I.ok x c e)
  exact absurd q.lt (by rw[z,hDD];exact Nat.lt_irrefl _)
 have nfp:D∉fp:=λ z=>Nat.lt_irrefl _ (hlt D z)
 have fpS:∀ b∈fp,b∉frs X.stack:=λ b hb z=>by
  rcases ar.mp (I.vc b z) with q | q
  ·exact(hf b hb).2.1 q
  ·exact(hf b hb).2.2.1 q
 have fpO:∀ (pl:List (Addr×Obj)) (H':Hp),(∀ p∈pl,p.1=D)->(∀ b∈fp,H' b=none)->∀ b∈fp,oO (X.comp (own++fr) scope C s H fp) pl H' b:=λ pl H' hpl hn b hb =>
  ⟨hn b hb,(below b (hlt b hb)).1,fpS b hb,.inl hb,λ x c e=>(hf b hb).2.2.2.2.1 x c (S.sub I.ok x c e),λ p hp z=>by
   have hp:p∈pl:=by simpa [Cx.comp] using hp
   rw[hpl p hp]at z
   exact nfp (z▸hb)⟩
 have loop:∀ s₃:Shared,s₃={s with heap:=h₁,toks:=s.toks+([]:List (Str×Value)).length} ->
   codeAny (model X.prog X.w) X.A (.compLoop (.ListComp elt [⟨tg,iter,ifs,0⟩] scope pos) 0 (.ref it) (.ref D) (compEnvC scope (tW scope X.env) C X.env)) (RR (.ref D) C) s₃:=by
  rintro s₃ rfl
  refine vy (λ n s'=>∃ i ys its H',Inv (X.comp (own++fr) scope C s H fp) [] (d3 own ix σ) H' s'/\s'.heap.PlainList D its/\Vals ys its.toList/\H' D=none/\tn i s'.heap/\(∀ b∈fp,H' b=none)/\ys.length<=sizeLine/\W i n ys H') ?_ m0
   ⟨0,[],#[],H,I0,hacc,.nil,I.hok.fresh hDs,st0,λ b hb=>(hf b hb).1,Nat.zero_le _,w0⟩
  rintro n s' ⟨i,ys,its,H',I',acc',rv,hD',st',fr',hz,w'⟩
  obtain⟨na,ha⟩:=id acc'
  have I1:Inv (X.comp (own++fr) scope C s H fp) [(D,{cls:=.type "list",data:=.seq its na})] (d3 own ix σ) H' s':=I'.qL λ p hp=>by
   have e:p=(D,({cls:=.type "list",data:=.seq its na}:Obj)):=by simpa using hp
   subst e
   exact⟨ha,hD',hDC,nfs,λ v z=>by cases z⟩
  have hpl:∀ p∈[(D,({cls:=.type "list",data:=.seq its na}:Obj))],p.1=D:=λ p hp=>by
   have e:p=(D,({cls:=.type "list",data:=.seq its na}:Obj)):=by simpa using hp
   rw[e]
  rcases turn i n ys H' w' with⟨stop,qn⟩ | ⟨go,hys,step⟩
  ·refine thn (T.done (X.comp (own++fr) scope C s H fp) rfl rfl rfl hc i _ s' _ H' _ I1 (fpO _ H' hpl fr') st' stop) λ r s1 ⟨hr,I2⟩=>?_
   subst hr
   have hD1:=(I2.pin (D,_) (aI _ (List.mem_singleton.mpr rfl))).1
   obtain⟨m1,hm1,_⟩:=I2.loc
   have J1:Inv X pins σ H' s1:=I.Kt I2.os I2.base I2.hok I2.bare λ b hb=>⟨(hf b hb).2.2.2.1,(hf b hb).2.1,(hf b hb).2.2.2.2.1,(hf b hb).2.2.2.2.2⟩
   have hXD:X.s₀.heap.objs.size<=D:=by rw[<-hDD];exact I.sz
   have J2:Inv X pins σ (upd H' D (.lst ys)) s1:=J1.xA hD' hXD (Nat.ne_of_gt (by rw[<-hDD];exact I.lt)) (λ x c e z=>by
     obtain⟨v,q⟩:=I.cell x c e
     exact absurd q.lt (by rw[z,hDD];exact Nat.lt_irrefl _)) (λ p hp z=>by
     have:=au (I.pin p hp).1
     rw[z,hDD]at this;exact Nat.lt_irrefl _ this) ⟨hz,its.toList,na,rv,by simpa using hD1⟩
   exact fin D C s1 _ J2 (qn D hD') hCle (by rw[aV (Ne.symm hDC)];exact I2.free) ⟨m1,hm1⟩
  ·refine thn (T.item (X.comp (own++fr) scope C s H fp) rfl rfl rfl hc i _ s' _ H' _ I1 (fpO _ H' hpl fr') st' go) λ r s1 ⟨u,hr,h1⟩=>?_
   subst hr
   refine thn h1 λ _ s2 ⟨x,H2',I2,r2,y2,st2,fr2⟩=>?_
   have I2':=I2.pinned (fpO _ H2' hpl fr2) (T.obj _ _ st2)
   refine thn (hg C _ s2 _ H2' x u _ I2' r2 (hgo _ _ _ _ (step x H2' y2))) λ _ s3 ⟨σ3,H3,I3,own3,len3,q3⟩=>?_
   refine thn (ht C _ s3 σ3 H3 _ I3 q3) λ ok s4 ⟨H4,I4,q4⟩=>?_
   have weak:∀ {pl H5 s5},Inv (X.comp (own++fr) scope C s H fp) pl σ3 H5 s5->Inv (X.comp (own++fr) scope C s H fp) pl (d3 own ix σ) H5 s5:=λ I5=>I5.weak len3.symm λ j v e=>by
    by_cases hj:own.length<=j
    ·rw[own3 j hj];exact e
    ·exfalso
     unfold d3 at e
     rw[List.getElem?_append_left (by simp;omega),List.getElem?_map]at e
     cases q:own[j]? with
     | none=>rw[q]at e;cases e
     | some a=>rw[q]at e;cases e
   have again:∀ {H5:Hp} {s5:Shared} {ys':List V} {its':Array Value} {n':Nat},Inv (X.comp (own++fr) scope C s H fp) ([(D,({cls:=.type "list",data:=.seq its na}:Obj))]++oP fp s2.heap) σ3 H5 s5->W (i+1) n' ys' H5->Vals ys' its'.toList->ys'.length<=sizeLine ->
     ∀ h',(∀ b o,b≠D->s5.heap.get? b=some o->h'.get? b=some o)->h'.PlainList D its'->∃ i ys its H',Inv (X.comp (own++fr) scope C s H fp) [] (d3 own ix σ) H' {s5 with heap:=h'}/\h'.PlainList D its/\Vals ys its.toList/\H' D=none/\tn i h'/\(∀ b∈fp,H' b=none)/\ys.length<=sizeLine/\W i n' ys H':=by
    intro H5 s5 ys' its' n' I5 w5 rv5 hz5 h' k5 a5
    have hD5:H5 D=none:=(I5.pin (D,_) (aI _ (List.mem_append_left _ (List.mem_singleton.mpr rfl)))).2.1
    have I6:Inv (X.comp (own++fr) scope C s H fp) [] (d3 own ix σ) H5 s5:=(weak I5).qL λ p hp=>absurd hp (by simp)
    refine⟨i+1,ys',its',H5,I6.turned (t':=s5.toks) k5 hD5 hDC (.inr hDs) ncell (λ p hp=>absurd hp (by simp[Cx.comp])),a5,rv5,hD5,T.keep _ _ _ st2 λ b hb o e=>k5 b o (λ z=>nfp (z▸hb)) (I5.pin (b,o) (aI _ (aI _ (jS hb e)))).1,λ b hb=>?_,hz5,w5⟩
    obtain⟨o,e,d⟩:=T.obj _ _ st2 b hb
    exact(I5.pin (b,o) (aI _ (aI _ (jS hb e)))).2.1
   have pinD:∀ {H5:Hp} {s5:Shared},Inv (X.comp (own++fr) scope C s H fp) ([(D,({cls:=.type "list",data:=.seq its na}:Obj))]++oP fp s2.heap) σ3 H5 s5->s5.heap.PlainList D its:=λ I5 =>
    ⟨na,(I5.pin (D,_) (aI _ (List.mem_append_left _ (List.mem_singleton.mpr rfl)))).1⟩
   cases ok with
   | false =>
    rw[af aq]at q4
    rw[af aq]
    obtain⟨m',hm',w4⟩:=q4
    exact⟨m',hm',again I4 w4 rv hz s4.heap (λ _ _ _ e=>e) (pinD I4)⟩
   | true =>
    rw[ae rfl]at q4
    rw[ae rfl]
    refine thn (he C _ s4 σ3 H4 _ I4 q4) λ y s5 ⟨v,H5,I5,r5,m',hm',w5⟩=>?_
    have hl:=rv.length
    refine wpAny_list_append_plain (hsz:=by simp at hl;omega) (pinD I5) λ h6 hl6 hs6=>?_
    refine⟨m',hm',again I5 w5 (its':=its.push y) ?_ (by rw[List.length_append,List.length_singleton];omega) h6 (λ b o hb e=>hs6.extBut b o hb e) hl6⟩
    rw[Array.toList_push]
    exact Paired.snoc rv r5
 exact codeAny_compStart_list (loop _ rfl) (T.self _ 0 _ _ _ st0 (loop _ rfl))
theorem HB (hc:X.calm=true)(S:fZ X scope own fr ix){wi:TI}(hi:PI X tg iter wi)(hg:∀ C s H fp,PG (X.comp (own++fr) scope C s H fp) tg g)(hgo:zL own.length g)
  (ht:∀ C s H fp,PF (X.comp (own++fr) scope C s H fp) ifs tc) (he:∀ C s H fp,PE (X.comp (own++fr) scope C s H fp) elt te) (hs:∀ x,foldedSetIterable iter X.env x=pure x:=by intro _;rfl) :
  PE X (.ListComp elt [⟨tg,iter,ifs,0⟩] scope pos) (tLC own ix wi g tc te):=by
 intro pins s σ H Q I h
 rw[eval_ListComp]
 refine wpAny_comprehension_free (use:=none) rfl hs (r_ (S.cells I.ok)) S.kind S.loc (thn (hi pins s σ H _ I h) λ v s1 h1=>thn h1 λ itv s2 h2=>?_)
 obtain⟨it,fp,tn,J,H2,e,I2,T,st2,f2,W,⟨m0,w0⟩,turn⟩:=h2
 subst e
 refine xB (Qe:=Q) (RR:=λ acc C=>compPost (model X.prog X.w) X.A X.xe none (EP X pins σ Q) acc C) I2 hc S T st2 f2 (λ C=>hg C _ _ _) hgo (λ C=>ht C _ _ _) (λ C=>he C _ _ _) w0 turn ?_
 rintro D C s' H' J1 q hC hn ⟨m,hm⟩
 refine⟨m,hm,λ h'' hs''=>⟨.ref D,H',?_,rfl,q⟩⟩
 exact J1.turned (t':=s'.toks) (λ b o hb e=>hs''.extBut b o hb e) hn (Nat.ne_of_gt (aB I2.lt hC)) (.inr (Nat.le_trans I2.sz hC)) (λ x c e z=>by
  obtain⟨v,q⟩:=I2.cell x c e
  exact absurd q.lt (by rw[z];exact Nat.not_lt.mpr hC)) (λ p hp z=>by
  have:=au (I2.pin p hp).1
  rw[z]at this;exact absurd this (Nat.not_lt.mpr hC))
theorem HC {i:Nat}{x:Str}{px spos:Pos}(hN:X.N.Nodup)(hi':X.N[i]?=some x)(hx:Loc X.env.scope x)(hc:X.calm=true)(S:fZ X scope own fr ix){wi:TI}(hi:PI X tg iter wi)(hg:∀ C s H fp,PG (X.comp (own++fr) scope C s H fp) tg g)(hgo:zL own.length g)
  (ht:∀ C s H fp,PF (X.comp (own++fr) scope C s H fp) ifs tc) (he:∀ C s H fp,PE (X.comp (own++fr) scope C s H fp) elt te)
  (hsw:swapsWith (.ListComp elt [⟨tg,iter,ifs,0⟩] scope pos) (some (.Name x px)) spos.line X.env=pure true:=by rfl) (hf:X.fn x=true\/X.env.scope.names.lookup x=some .local:=by trivial)
  (hs:∀ x,foldedSetIterable iter X.env x=pure x:=by intro _;rfl) :
  PS X (.Assign [.Name x px] (.ListComp elt [⟨tg,iter,ifs,0⟩] scope pos) spos) (λ D σ H=>tLC own ix wi g tc te σ H λ v H'=>D.nx (σ.set i (some v)) H'):=by
 intro pins s σ H D I h
 rw[exec_Assign_Name_used _ _ _ _ hsw]
 refine av (wpAny_standAt (av ?_))
 show wpAny _ X.A (do let _<-comprehension (.ListComp elt [⟨tg,iter,ifs,0⟩] scope pos) scope X.env _ (newList []) false (eval iter X.env) (some (assign (.Name x px) X.env))) _ _ s
 refine av (wpAny_mono (wpAny_comprehension_free (use:=some (assign (.Name x px) X.env)) (Q:=λ _ s'=>SP X pins D .next s') rfl hs (r_ (S.cells I.ok)) S.kind S.loc
  (thn (hi pins s σ H _ I h) λ v s1 h1=>thn h1 λ itv s2 h2=>?_)) (λ _ s' hq=>aw (aw hq)) λ _ _ e=>e)
 obtain⟨it,fp,tn,J,H2,e,I2,T,st2,f2,W,⟨m0,w0⟩,turn⟩:=h2
 subst e
 refine xB (Qe:=λ v H'=>D.nx (σ.set i (some v)) H') (RR:=λ acc C=>compPost (model X.prog X.w) X.A X.xe (some (assign (.Name x px) X.env)) (λ _ s'=>SP X pins D .next s') acc C) I2 hc S T st2 f2 (λ C=>hg C _ _ _) hgo (λ C=>ht C _ _ _) (λ C=>he C _ _ _) w0 turn ?_
 rintro Dd C s' H' J1 q hC hn ⟨m,hm⟩
 show wpAny _ X.A (assign (.Name x px) X.env (.ref Dd)) _ _ _
 refine wpAny_assign_Name (uv (v:=.ref Dd) J1 hN hi' hx rfl (λ s'' J2 ⟨a,hsb,ha⟩=>?_) hf)
 have neC:a≠C:=by
  rcases ha with ha | ha
  ·rw[ha];exact Nat.ne_of_lt (aB I2.lt hC)
  ·obtain⟨v,q⟩:=I2.cell x a ha
   exact Nat.ne_of_lt (aB q.lt hC)
 refine⟨m,hm.sameBut hsb neC.symm,λ h'' hs''=>⟨_,H',?_,q⟩⟩
 exact J2.turned (t':=s''.toks) (λ b o hb e=>hs''.extBut b o hb e) hn (Nat.ne_of_gt (aB I2.lt hC)) (.inr (Nat.le_trans I2.sz hC)) (λ x c e z=>by
  obtain⟨v,q⟩:=I2.cell x c e
  exact absurd q.lt (by rw[z];exact Nat.not_lt.mpr hC)) (λ p hp z=>by
  have:=au (I2.pin p hp).1
  rw[z]at this;exact absurd this (Nat.not_lt.mpr hC))
end
end L2
namespace Tb
open PySem PySem.W PySem.Spec PyProof.Rows
noncomputable def pLt (a b:Int×Int):Bool:=decide (a.1<b.1) || (decide (a.1=b.1)&&decide (a.2<b.2))
theorem nA (a b:Int×Int):pLt a b=true↔a.1<b.1\/(a.1=b.1/\a.2<b.2):=by simp[pLt]
theorem o7 (a b:Int×Int):pLt a b=false↔¬ (a.1<b.1\/(a.1=b.1/\a.2<b.2)):=by rw[<-nA];simp
noncomputable def PO:KeyOrd where
 α:=Int×Int
 blt:=pLt
 irrefl:=λ a=>by rw[o7];omega
 trans:=λ a b c h1 h2=>by rw[nA]at *;omega
 negTrans:=λ a b c h=>by rw[nA]at *;rw[nA];omega
 total:=λ a b h1 h2=>by
  rw[o7]at h1 h2
  exact Prod.ext (by omega) (by omega)
section
variable {prog:Program}{w:World}{A:Around}{E:Value->Shared->Prop}{s:Shared}{h₀:Heap}{L:Addr}{m:Str->Option Value}{news:List (Addr×Obj)}
theorem DV {h:Heap}{x y:Int}{b:Addr}(k:gU prog w h [x,y] b):∃ o n t u,h.get? b=some o/\o.cls=.type "tuple"/\o.data=.seq #[.int x t,.int y u] n:=by
 obtain⟨o,its,n,e1,e2,e3,e4⟩:=k
 generalize hits:its.toList=L at e4
 cases e4 with
 | cons h1 e5=>cases e5 with
  | cons h2 e6 =>
   cases e6
   obtain⟨t,q1⟩:=Value.isInt_shape h1
   obtain⟨u,q2⟩:=Value.isInt_shape h2
   refine⟨o,n,t,u,e1,e2,?_⟩
   rw[e3,<-q1,<-q2]
   congr 1
   apply Array.ext'
   rw[hits]
theorem qe {h:Heap}:∀ (vs:List Value),(∀ v∈vs,∃ b x y,v=.ref b/\gU prog w h [x,y] b)->∃ fs:List Value,KatTups h vs fs/\fs.length=vs.length/\∀ f∈fs,∃ i t,f=Value.int i t
 | [],_=>⟨[],trivial,rfl,λ f hf=>by cases hf⟩
 | v::r,hv=>by
  obtain⟨fs,q1,q2,q3⟩:=qe r λ u hu=>hv u (ak _ hu)
  obtain⟨b,x,y,rfl,tk⟩:=hv v ai
  obtain⟨o,n,t,u,e1,e2,e3⟩:=DV tk
  refine⟨.int x t::fs,KatTups.cons e1 e2 e3 rfl q1,by simp[q2],λ f hf=>?_⟩
  rcases ar.mp hf with rfl | hf
  ·exact⟨x,t,rfl⟩
  ·exact q3 f hf
theorem DW {i j:Nat}{vs:List Value}{a b:Int×Int}{p q:Addr}{C:Bool->Shared->Prop}(hi:vs[i]?=some (.ref p))(hj:vs[j]?=some (.ref q))(ki:gU prog w s.heap [a.1,a.2] p)(kj:gU prog w s.heap [b.1,b.2] q)(h:C (pLt a b) s) :
  kas_ask prog w A (tuples' true) vs i j C s:=by
 unfold kas_ask
 rw[aD,hi,aD,hj,Option.getD_some,Option.getD_some]
 obtain⟨o1,n1,t1,u1,e1,c1,d1⟩:=DV ki
 obtain⟨o2,n2,t2,u2,e2,c2,d2⟩:=DV kj
 refine kat_lt e1 d1 e2 d2 ?_
 show KatLex prog w A true _ C [(Value.int a.1 t1,Value.int b.1 t2),(Value.int a.2 u1,Value.int b.2 u2)] 0 s
 refine kat_cons (wpAny_eqBool_int ?_)
 by_cases h1:a.1=b.1
 ·rw[show(a.1==b.1)=true by simpa using h1]
  refine kat_yes (kat_cons (wpAny_eqBool_int ?_))
  by_cases h2:a.2=b.2
  ·rw[show(a.2==b.2)=true by simpa using h2]
   refine kat_yes (kat_nil ?_)
   have e:pLt a b=false:=by rw[o7];omega
   rw[e]at h
   exact h
  ·rw[show(a.2==b.2)=false by simpa using h2]
   refine kat_no ?_
   show wpAny _ _ (oneLt' false (.int a.2 u1) (.int b.2 u2)) _ _ _
   refine kat_one _ _ (lt_int ?_)
   have e:pLt a b=decide (a.2<b.2):=by simp[pLt,h1]
   rw[e]at h
   exact h
 ·rw[show(a.1==b.1)=false by simpa using h1]
  refine kat_no ?_
  show wpAny _ _ (oneLt' true (.int a.1 t1) (.int b.1 t2)) _ _ _
  refine oneLt_int ?_
  have e:pLt a b=decide (a.1<b.1):=by simp[pLt,h1]
  rw[e]at h
  exact h
theorem zM {D:Addr}{vs:List Value}{X:Nat->Int×Int}{Q:Value->Shared->Prop}(F:Fr h₀ L s.heap m)(N:News h₀ L s.heap ((D,listOf vs.toArray 0)::news))(hD:∀ p∈news,p.1≠D)(h2:2<=vs.length)(h64:vs.length<64)
  (ht:∀ h',Fr h₀ L h' m->News h₀ L h' news->∀ (i:Nat) v,vs[i]?=some v->∃ b,v=.ref b/\gU prog w h' [(X i).1,(X i).2] b)
  (h:∀ (p:Array Nat) h' c,Pm vs.length p->Sor (O:=PO) X p vs.length->Fr h₀ L h' m->News h₀ L h' ((D,listOf (List.toArray (p.toList.map λ i=>vs.getD i Value.none)) c)::news)->Q .none {s with heap:=h'}) :
  wpAny (model prog w) A (call (.builtin "list.sort") [.ref D]) Q E s:=by
 refine kat_lsort F N (.head hD) (by simp) h2 h64 λ e1 h' F' N'=>?_
 have N'':News h₀ L h' news:=λ p hp=>N' p (ak _ hp)
 have keys:=ht h' F' N''
 have at_i:∀ i,i<vs.length->∃ b,vs[i]?=some (.ref b)/\gU prog w h' [(X i).1,(X i).2] b:=λ i hi=>by
  obtain⟨b,e,tk⟩:=keys i vs[i] (by simp[hi])
  exact⟨b,by rw[<-e];simp[hi],tk⟩
 obtain⟨fs,q1,q2,q3⟩:=qe (prog:=prog) (w:=w) (h:=h') vs λ v hv=>by
  obtain⟨i,hi,ei⟩:=List.getElem_of_mem hv
  obtain⟨b,e,tk⟩:=keys i v (by rw[<-ei];simp[hi])
  exact⟨b,_,_,e,tk⟩
 refine kat_kind (s:={s with heap:=h'}) (T:=.type "int") q1 (by omega) (λ v hv=>?_) (by decide) ?_
 ·obtain⟨i,t,rfl⟩:=q3 v hv
  exact Looks.of_pure rfl
 ·show(kas_sort vs.length).kasWp (kas_ask prog w A.in1 (tuples' true) vs) _ _
  refine Tr.wp (n:=vs.length) (c:=cO (O:=PO) X) (R:=λ p=>Pm vs.length p/\Sor (O:=PO) X p vs.length) (λ i j C hi hj hc=>?_) (λ p hp=>?_) _ (I9 (by omega))
  ·obtain⟨b1,v1,k1⟩:=at_i i hi
   obtain⟨b2,v2,k2⟩:=at_i j hj
   exact DW v1 v2 k1 k2 hc
  ·exact KasFin.intro F' N' (.head hD) λ h2 c F2 N2=>h p h2 c hp.1 hp.2 F2 N2
theorem zN {D:Addr}{vs:List Value}{Q:Value->Shared->Prop}(ho:s.heap.get? D=some (seqObj "list" vs.toArray 0))(h2:vs.length<2)
  (h:∀ h' c,(∀ b o,b≠D->s.heap.get? b=some o->h'.get? b=some o)->h'.get? D=some (seqObj "list" vs.toArray c)->Q .none {s with heap:=h'}) :
  wpAny (model prog w) A (call (.builtin "list.sort") [.ref D]) Q E s:=by
 have hlt:D<s.heap.objs.size:=au ho
 refine wpAny_call_entry slot_list_sort ⟨_,ho,rfl⟩ entry_list_sort ?_ (args_list_sort _)
 rw[list_sort_plain]
 refine av (listItems_at ho rfl ?_)
 refine av (listUpdate_at ho rfl ?_ (by simp;rw[sizeLine_eq];omega) (by simp))
 obtain⟨e1,ho1⟩:∃ e1,(s.heap.update D (Obj.mapSeq λ _=>#[])).get? D=some (seqObj "list" #[] e1):=⟨_,get?_update_seq ho λ _=>#[]⟩
 refine av (seqEpoch_at ho1 rfl ?_)
 refine av (wpAny_newTuple ?_ (by rw[sizeLine_eq];simp;omega))
 refine av (wpAny_newList ?_ (by simp))
 refine wpAny_holding ?_
 have ho6:(((s.heap.update D (Obj.mapSeq λ _=>#[])).push (seqObj "tuple" vs.toArray 0)).push (seqObj "list" #[] 0)).get? D=some (seqObj "list" #[] e1) :=
  aC _ (aC _ ho1)
 show wpAny (model prog w) _ _ _ _ {s with heap:=((s.heap.update D (Obj.mapSeq λ _=>#[])).push (seqObj "tuple" vs.toArray 0)).push (seqObj "list" #[] 0)}
 dsimp only
 have hsz:vs.toArray.size<2:=by simpa using h2
 rw[ae hsz,ae hsz]
 refine av (aw ?_)
 rw[StateT.run_pure]
 refine av (aw ?_)
 dsimp only
 refine av (seqEpoch_at ho6 rfl ?_)
 have hout:(arrOf (SortSt.mk' general' (vs.toArray.zip vs.toArray) #[] 7 none)).map (·.2)=vs.toArray:=by
  show(vs.toArray.zip vs.toArray).map (·.2)=vs.toArray
  apply Array.ext'
  simp
  exact List.map_snd_zip (ag _)
 rw[hout]
 refine av (listUpdate_at ho6 rfl ?_ (by simp) (by simp;rw[sizeLine_eq];omega))
 simp only[bne_self_eq_false,Bool.false_eq_true,if_false]
 obtain⟨c,hc⟩:∃ c,((((s.heap.update D (Obj.mapSeq λ _=>#[])).push (seqObj "tuple" vs.toArray 0)).push (seqObj "list" #[] 0)).update D (Obj.mapSeq λ _=>vs.toArray)).get? D=some (seqObj "list" vs.toArray c):=⟨_,get?_update_seq ho6 λ _=>vs.toArray⟩
 refine aw ⟨_,rfl,h _ c (λ b o hb e=>?_) hc⟩
 rw[Heap.get?_update_ne _ _ _ _ hb]
 refine aC _ (aC _ ?_)
 rw[Heap.get?_update_ne _ _ _ _ hb]
 exact e
theorem DX {r:Addr}{Q:Bool->Shared->Prop}(hT:s.TypeIs (.ref r) "set")(h:Q false s):wpAny (model prog w) A (Builtin.List.listLengthHint (.ref r)) Q E s:=by
 unfold Builtin.List.listLengthHint
 refine av (wpAny_specialOf hT PySem.F.slot_set_len.lookup ?_)
 generalize hid:("set.__len__":String)=id0
 wp_delta
 rw[show splitId id0=some ("set","__len__") from by subst hid;decide +kernel]
 subst hid
 refine av (wpAny_isInstance (T:="set") (b:=true) hT (by rw[isSubtype_type];kernel_rfl) ?_)
 refine wpAny_ite_split (λ hab=>absurd hab (by decide)) (λ _=>?_)
 refine wpAny_ite_split (λ _=>?_) (λ hab=>absurd (by decide +kernel) hab)
 exact av (wpAny_typeOf hT (aw h))
theorem DY {S:Addr}{oS:Obj}{es:Array (Int×Value)}{ep:Nat}{t:SetTable}{Q:Value->Shared->Prop}(hS:s.heap.get? S=some oS)(hx:oS.ExactSet)(hd:oS.data=.set es ep t)(T:TOk t (es.toList.map (·.1)))(hp:t.plain=true)
  (hQ:Q (.ref s.heap.objs.size) {s with heap:=s.heap.push {cls:=.type "set_iterator",data:=.fields #[rawInt 0,rawInt 0,.ref S,rawInt es.size,rawInt ep]}}):wpAny (model prog w) A (pyIter (.ref S)) Q E s:=by
 have hT:s.TypeIs (.ref S) "set":=⟨oS,hS,hx.1⟩
 have hfit:=fits_of T (n:=es.size) (by simp)
 refine wpAny_pyIter_slot hT F.slot_set_iter (wpAny_call_entry F.slot_set_iter hT tV ?_ (F.args_set_iter_1 _))
 unfold Builtin.«frozenset.__iter__»
 refine av ?_
 unfold Builtin.Frozenset.slot0
 refine av (aw ?_)
 show wpAny _ _ (pure S) _ _ _
 refine aw ?_
 refine av ?_
 unfold Builtin.Frozenset.sizeOf
 refine av (kX hS hd T (aw ?_))
 refine av ?_
 unfold setDrawn
 refine av (wpAny_setState_of hS hd hfit ?_)
 dsimp only
 refine av (vv ?_)
 refine aw ?_
 show wpAny _ _ (if (!w.params.followText "set-order"&&(!t.plain&&decide (es.size>1)))=true then _ else _) _ _ _
 rw[hp]
 simp only[Bool.not_true,Bool.false_and,Bool.and_false,Bool.false_eq_true,if_false]
 refine av (aw ?_)
 refine av (av (wpAny_setState_of hS hd hfit (aw ?_)))
 refine av (wpAny_newObj_type (aw ⟨_,rfl,"set_iterator",_,⟨_,aG _ rfl,rfl⟩,eM.lookup,?_⟩))
 exact hQ
theorem Ga {S:Addr}{oS:Obj}{es:Array (Int×Value)}{ep:Nat}{t:SetTable}(hx:oS.ExactSet)(hd:oS.data=.set es ep t)(T:TOk t (es.toList.map (·.1)))(hp:t.plain=true)(hl:t.led=!(w.params.followText "set-order")) :
  KdlSrc prog w "set" S S es.size (λ i v=>∃ hv,(seen w S ep es)[i]?=some (hv,v)) (λ h=>h.get? S=some oS) where
 type:=λ _ e=>⟨oS,e,hx.1⟩
 there:=λ _ e=>⟨au e,au e⟩
 keep:=λ _ _ e hk=>hk S (.inl rfl) oS e
 notList:=by decide
 notTuple:=by decide
 hint:=λ _ _ _ _ e hq=>DX ⟨oS,e,hx.1⟩ hq
 iter:=λ A s hh e=>⟨_,_,(λ _ _ hq=>DY e hx hd T hp hq),DS hh (Nat.ne_of_lt (au e)) hd T hp hl,⟨⟨_,0,aG _ rfl,rfl,rfl,λ _=>zI T.ri⟩,aC _ e⟩⟩
end
end Tb
namespace L2
open PySem PySem.W PySem.Spec PyProof.Rows Tb
section
variable {X:Cx}{pins:List (Addr×Obj)}{σ:St}{H:Hp}{s:Shared}
theorem se {prog:Program}{w:World}:∀ {k:List Int} {its:List Value},Vals (k.map V.int) its->ItemsAre (intKind prog w) k its
 | [],_,.nil=>.nil
 | i::r,_,.cons ⟨t,e⟩ q=>by
  subst e
  exact .cons (intKind_is _ _ _ _) (se q)
theorem A2 {prog:Program}{w:World}{H:Hp}{h:Heap}(ok:HOk prog w H h){k:List Int}{b:Addr}(e:H b=some (.tup (k.map V.int))):gU prog w h k b:=by
 obtain⟨_,its,r,o,e1,e2,n,e3⟩:=ok b _ e
 exact⟨o,its.toArray,n,e1,e2,e3,by simpa using se r⟩
noncomputable def Cd (H:Hp)(vs:List V)(kk:List (List Int)):Prop:=Paired (λ v k=>∃ b,v=V.ref b/\H b=some (.tup (k.map V.int))) vs kk
noncomputable def Gb (w:World)(H:Hp)(S:Addr)(ks:List (List Int)):Prop:=∃ oS es ep t,H S=some (.ext λ h=>h.get? S=some oS)/\oS.ExactSet/\oS.data=.set es ep t/\TOk t (es.toList.map (·.1))/\t.plain=true/\t.led=!(w.params.followText "set-order")/\es.size<=76/\ks.Nodup /\
 Paired (λ k (e:Int×Value)=>∃ b,e.2=Value.ref b/\H b=some (.tup (k.map V.int))) ks es.toList
theorem o8 {α β:Type}{F:α->β->Prop}:∀ {xs:List α} {ys:List β},Paired F xs ys->∀ (i:Nat) (x:α),xs[i]?=some x->∃ y,ys[i]?=some y/\F x y
 := by
  intro xs ys h
  induction h with
  | nil=>intro i x h;simp at h
  | cons h t ih =>
    intro i x e
    cases i with
    | zero =>
      rw[List.getElem?_cons_zero]at e
      cases e
      exact⟨_,rfl,h⟩
    | succ i =>
      rw[List.getElem?_cons_succ]at e
      obtain⟨y,q1,q2⟩:=ih i x e
      exact⟨y,by rw[List.getElem?_cons_succ];exact q1,q2⟩
theorem DZ (hc:X.calm=true)(hu:X.A.units+64<cLine):cG X (.type "set") (λ xs H Q=>∃ l vs kk,xs=[V.ref l]/\SqL X.K H l vs/\Cd H vs kk/\vs.length<=40 /\
  ∀ S o ks,H S=none->Gb X.w (upd H S o) S ks->(∀ k,k∈ks↔k∈kk)->Q (.ref S) (upd H S o)):=by
 intro pins s σ H xs us Q I r h
 obtain⟨l,vs,kk,rfl,hl,ht,hz,q⟩:=h
 obtain⟨u,rfl,ru⟩:=vals1 r
 cases ru
 obtain⟨its,rv,p,_⟩:=I.list hl
 have hlen:vs.length=its.length:=rv.length
 have hkl:vs.length=kk.length:=ht.length
 refine xr (G:=λ k b=>H b=some (.tup (k.map V.int))) (I.ok.hd hc) (Nat.lt_of_le_of_lt (show X.A.units+40<=X.A.units+64 by omega) hu) p.isList (kk:=kk) (by simp;omega) (by simp;omega) (λ j v hj=>?_) λ h' tk ks kp S' m'=>?_
 ·have hj:its[j]?=some v:=by simpa using hj
  have hjl:j<vs.length:=by
   have:=(List.getElem?_eq_some_iff.mp hj).1
   omega
  obtain⟨k,hk1,b,hb,hb2⟩:=o8 ht j vs[j] (by simp[hjl])
  obtain⟨u,hu1,hu2⟩:=rv.get (x:=vs[j]) (i:=j) (by simp[hjl])
  rw[hj]at hu1
  cases hu1
  rw[hb]at hu2
  cases hu2
  exact⟨k,b,hk1,rfl,A2 I.hok hb2,hb2⟩
 ·obtain⟨oS,es,ep,t,ho,hx,hd,T,En,hp,hl',hr,nd⟩:=S'
  have keep:∀ b u,s.heap.get? b=some u->h'.get? b=some u:=λ b u e=>kp b u (au e) e
  have hn:=I.hok.fresh (ag s.heap.objs.size)
  have I':Inv X pins σ (upd H s.heap.objs.size (.ext λ h=>h.get? s.heap.objs.size=some oS)) {s with heap:=h',toks:=tk}:=I.laid keep (ag _) ⟨ho,⟨_,ho⟩,λ h1 h2 a b=>b _ a⟩
  refine⟨.ref s.heap.objs.size,_,I',rfl,q _ _ ks hn ⟨oS,es,ep,t,aU,hx,hd,T,hp,hl',?_,nd,jV (λ k e ⟨b,e1,_,e2⟩=>⟨b,by rw[e1],by rw[aV (bw e2 hn)];exact e2⟩) En⟩ m'⟩
  rcases hr with⟨_,z⟩ | ⟨_,z⟩ | ⟨_,z⟩<;>omega
theorem Inv.vz {h':Heap}{tk:Nat}{m:Str->Option Value}(I:Inv X pins σ H s)(hm:s.heap.Ns X.env.locals m)(F:Fr (Att.fY s.heap) X.env.locals h' m)(N:News (Att.fY s.heap) X.env.locals h' (jQ (Att.fY s.heap) s.heap X.env.locals)) :
  Inv X pins σ H {s with heap:=h',toks:=tk}:=by
 have no:∀ b,(Att.fY s.heap).get? b=none:=λ b=>Heap.get?_none_of_le (Nat.zero_le _)
 have keep:∀ b o,b≠X.env.locals->s.heap.get? b=some o->h'.get? b=some o:=λ b o hb e=>(N (b,o) (w6 hb (no b) e)).1
 refine I.step (g':=s.gens) (d':=s.drawn) (ch:=[]) (λ _ z=>nomatch z) (λ b o hb _ _ e _=>keep b o hb e) (λ b o hb _ _ e _=>⟨o.slots,keep b o hb e⟩) (λ _ _ _ _ n=>n) (λ b o _ e=>?_) (λ _ _ e=>e) (λ _ _ _ e=>e) (λ b ps e=>⟨#[],by rw[e];simp⟩) (λ m' hm'=>?_) (λ b u e=>?_) I.bare
 ·by_cases hb:b=X.env.locals
  ·obtain⟨o',_,_,ho',_⟩:=F.ns
   exact⟨o',by rw[hb];exact ho'⟩
  ·exact⟨o,keep b o hb e⟩
 ·have:m'=m:=by
   obtain⟨o1,es1,ep1,a1,a2,_,a4⟩:=hm
   obtain⟨o2,es2,ep2,b1,b2,_,b4⟩:=hm'
   rw[a1]at b1;cases b1
   rw[a2]at b2;cases b2
   funext x
   rw[<-a4 x,<-b4 x]
  rw[this];exact F.ns
 ·refine(I.hok b u e).tQ (λ c v hc q=>keep c v ?_ q) (λ _ q=>q) λ _ _ q=>q
  rcases hc with z | z
  ·intro hL
   have hf:=I.free
   rw[<-hL,z,e]at hf
   cases hf
  ·intro hL
   have hf:=I.free
   rw[<-hL,z]at hf
   cases hf
theorem xC {P:Program}{w:World}{H:Hp}{h:Heap}{a:Addr}{o:HO}(x:cE P w H h a o):∃ ob,h.get? a=some ob:=by
 cases o with
 | lst xs=>obtain⟨_,_,_,_,e⟩:=x;exact⟨_,e⟩
 | tup xs=>obtain⟨_,_,_,ob,e,_⟩:=x;exact⟨ob,e⟩
 | dK kvs=>obtain⟨_,_,_,_,ob,_,_,e,_⟩:=x;exact⟨ob,e⟩
 | dT kvs=>obtain⟨_,_,_,_,ob,_,_,e,_⟩:=x;exact⟨ob,e⟩
 | set S n=>obtain⟨ob,_,_,_,e,_⟩:=x;exact⟨ob,e⟩
 | ins C dx fs=>obtain⟨_,_,_,e,_⟩:=x;exact⟨_,e⟩
 | own y=>obtain⟨ob,e⟩:=x;exact⟨ob,e⟩
 | xd fs=>obtain⟨_,⟨ob,_,_,e,_⟩,_⟩:=x;exact⟨ob,e⟩
 | rng lo hi=>obtain⟨_,_,_,e⟩:=x;exact⟨_,e⟩
 | frz ob u=>obtain⟨e,_⟩:=x;exact⟨_,e⟩
 | tbl ps=>exact⟨_,x⟩
 | met f y=>exact⟨_,x⟩
 | ext φ=>obtain⟨_,⟨ob,e⟩,_⟩:=x;exact⟨ob,e⟩
theorem xD {α β:Type}{F:α->β->Prop}{ys ys':List β}(p:ys.Perm ys'):∀ {xs:List α},Paired F xs ys->∃ xs',xs.Perm xs'/\Paired F xs' ys':=by
 induction p with
 | nil=>intro xs h;exact⟨xs,.refl _,h⟩
 | cons y _ ih =>
  intro xs h
  cases h with
  | cons h t =>
   obtain⟨xs',q1,q2⟩:=ih t
   exact⟨_,q1.cons _,.cons h q2⟩
 | swap y z l =>
  intro xs h
  cases h with
  | cons h1 t =>
   cases t with
   | cons h2 t=>exact⟨_,List.Perm.swap _ _ _,.cons h2 (.cons h1 t)⟩
 | trans _ _ ih1 ih2 =>
  intro xs h
  obtain⟨x1,q1,q2⟩:=ih1 h
  obtain⟨x2,q3,q4⟩:=ih2 q2
  exact⟨x2,q1.trans q3,q4⟩
theorem nB {α β γ:Type}{F:β->γ->Prop}(f:α->β):∀ {xs:List α} {ys:List γ},Paired F (xs.map f) ys->Paired (λ a y=>F (f a) y) xs ys
 | [],_,.nil=>.nil
 | _::_,_,.cons h t=>.cons h (nB f t)
theorem kZ {α β γ:Type}{F:β->γ->Prop}{f:α->β}{g:α->γ}:∀ (l:List α),(∀ a∈l,F (f a) (g a))->Paired F (l.map f) (l.map g)
 | [],_=>.nil
 | a::r,h=>.cons (h a ai) (kZ r λ b hb=>h b (ak _ hb))
theorem k_ {α:Type}(l:List α)(d:α):(List.range l.length).map (λ i=>l.getD i d)=l:=by
 apply List.ext_getElem?
 intro i
 rw[List.getElem?_map]
 by_cases h:i<l.length
 ·rw[List.getElem?_range h]
  simp[h]
 ·rw[List.getElem?_eq_none (by simpa using h),List.getElem?_eq_none (by omega)]
  rfl
theorem sf (hc:X.calm=true):cG X (.builtin "sorted") (λ xs H Q=>∃ S kk,xs=[V.ref S]/\Gb X.w H S (kk.map λ(k:Int×Int)=>[k.1,k.2])/\kk.length<64 /\
  ∀ p ws (ss:List (Int×Int)),H p=none->Cd H ws (ss.map λ k=>[k.1,k.2])->ss.Pairwise (λ a b=>pLt a b=true)->ss.Perm kk->Q (.ref p) (upd H p (.lst ws))):=by
 intro pins s σ H xs us Q I r h
 obtain⟨S,kk,rfl,hS,h64,q⟩:=h
 obtain⟨u,rfl,ru⟩:=vals1 r
 cases ru
 obtain⟨oS,es,ep,t,e1,hx,hd,T,hp,hl,hz,nd,pr⟩:=hS
 have hok:=I.hok S _ e1
 have hS:s.heap.get? S=some oS:=hok.1
 obtain⟨m,hm,_⟩:=id I.loc
 have no:∀ b,(Att.fY s.heap).get? b=none:=λ b=>Heap.get?_none_of_le (Nat.zero_le _)
 have hkl:kk.length=es.size:=by have:=pr.length;simpa using this
 have ndk:kk.Nodup:=by
  rw[List.nodup_iff_pairwise_ne]at nd ⊢
  rw[List.pairwise_map]at nd
  exact nd.imp λ h e=>h (by rw[e])
 obtain⟨k3,pk,pr3⟩:=xD (o6 X.w S ep es).symm (nB _ pr)
 have hk3:k3.length=es.size:=by rw[<-pk.length_eq,hkl]
 refine Calls.call_function_entry kind_sorted plain_sorted entry_sorted (args_sorted1 _) ?_
 unfold Builtin.«sorted»
 refine av (m:=checkCount "sorted" 1 1 _) (aw (av (kdu_collect (A:=X.A.in1) (Ga hx hd T hp hl) (I.ok.hd hc) hS (by rw[sizeLine_eq];omega) λ h1 tk acc hk hacc=>?_)))
 have hal:acc.toList.length=es.size:=by rw[Array.length_toList];exact hacc.1
 have hav:∀ (j:Nat) (v:Value),acc.toList[j]?=some v->∃ hv,(seen X.w S ep es)[j]?=some (hv,v):=λ j v e=>hacc.2 j v (by rw[<-Array.getElem?_toList];exact e)
 generalize acc.toList=vs at hal hav
 refine av (wpAny_newList ?_ (by rw[sizeLine_eq];omega))
 have hL:X.env.locals<h1.objs.size:=by
  obtain⟨oL,_,_,ho,_⟩:=hm
  exact au (hk _ _ ho)
 have at_j:∀ j,j<es.size->∃ b,vs[j]?=some (.ref b)/\H b=some (.tup [.int (k3.getD j (0,0)).1,.int (k3.getD j (0,0)).2]):=λ j hj=>by
  obtain⟨hv,e2⟩:=hav j vs[j] (by simp[hal,hj])
  have hj3:k3[j]?=some (k3.getD j (0,0)):=by rw[aD];simp[hk3,hj]
  obtain⟨y,y1,b,y2,y3⟩:=o8 pr3 j _ hj3
  rw[Array.getElem?_toList,e2]at y1
  cases y1
  exact⟨b,by rw[<-y2];simp[hal,hj],y3⟩
 have keep1:∀ b o,s.heap.get? b=some o->(h1.push {cls:=.type "list",data:=.seq vs.toArray}).get? b=some o:=λ b o e=>aC _ (hk b o e)
 have F1:Fr (Att.fY s.heap) X.env.locals (h1.push {cls:=.type "list",data:=.seq vs.toArray}) m:=⟨hm.at' λ o e=>keep1 _ o e,(λ b o e=>by rw[no]at e;cases e),Nat.zero_le _⟩
 have N1:News (Att.fY s.heap) X.env.locals (h1.push {cls:=.type "list",data:=.seq vs.toArray}) (jQ (Att.fY s.heap) s.heap X.env.locals):=λ p hp=>let ⟨a,_,c⟩:=iA hp;⟨keep1 _ _ c,a,no _⟩
 have hD:(h1.push {cls:=.type "list",data:=.seq vs.toArray}).get? h1.objs.size=some (listOf vs.toArray 0):=aG _ rfl
 have hneD:∀ p∈jQ (Att.fY s.heap) s.heap X.env.locals,p.1≠h1.objs.size:=λ p hp=>let ⟨_,_,c⟩:=iA hp;Nat.ne_of_lt (au (hk _ _ c))
 have fin:∀ (l:List Nat) h2 c tk2,l.Perm (List.range es.size)->(l.map λ i=>k3.getD i (0,0)).Pairwise (λ a b=>pLt b a=false)->Fr (Att.fY s.heap) X.env.locals h2 m->News (Att.fY s.heap) X.env.locals h2 ((h1.objs.size,listOf (List.toArray (l.map λ i=>vs.getD i Value.none)) c)::jQ (Att.fY s.heap) s.heap X.env.locals) ->
   EP X pins σ Q (.ref h1.objs.size) {s with heap:=h2,toks:=tk2}:=λ l h2 c tk2 hlp hso F2 N2=>by
  have I2:Inv X pins σ H {s with heap:=h2,toks:=tk2}:=I.vz hm F2 λ p hp=>N2 p (ak _ hp)
  have hn:H h1.objs.size=none:=by
   cases e:H h1.objs.size with
   | none=>rfl
   | some o =>
    obtain⟨o',ho'⟩:=xC (I.hok _ _ e)
    exact absurd (au (hk _ _ ho')) (Nat.lt_irrefl _)
  have hlt:∀ i∈l,i<es.size:=λ i hi=>ay.mp (hlp.mem_iff.mp hi)
  let bo:Nat->Addr:=λ i=>match vs[i]? with | some (.ref b)=>b | _=>0
  have hbo:∀ i,i<es.size->vs.getD i Value.none=.ref (bo i)/\H (bo i)=some (.tup [.int (k3.getD i (0,0)).1,.int (k3.getD i (0,0)).2]):=λ i hi=>by
   obtain⟨b,b1,b2⟩:=at_j i hi
   have:bo i=b:=by show(match vs[i]? with | some (.ref b)=>b | _=>0)=b;rw[b1]
   rw[this,aD,b1]
   exact⟨rfl,b2⟩
  have new:cE X.prog X.w (upd H h1.objs.size (.lst (l.map λ i=>V.ref (bo i)))) h2 h1.objs.size (.lst (l.map λ i=>V.ref (bo i))) :=
   ⟨by rw[ah,hlp.length_eq,List.length_range,sizeLine_eq];omega,l.map λ i=>vs.getD i Value.none,c,kZ l λ i hi=>(hbo i (hlt i hi)).1,(N2 _ ai).1⟩
  have I3:Inv X pins σ (upd H h1.objs.size (.lst (l.map λ i=>V.ref (bo i)))) {s with heap:=h2,toks:=tk2}:=I2.xA hn (Nat.le_trans I.ok.above (Nat.le_of_lt hL)) (Nat.ne_of_gt hL) (λ x c e z=>by
    obtain⟨v,o,ho,_⟩:=I.cell x c e
    exact absurd (au (hk _ _ ho)) (by rw[z];exact Nat.lt_irrefl _)) (λ p hp z=>by
    exact absurd (au (hk _ _ (I.pin p hp).1)) (by rw[z];exact Nat.lt_irrefl _)) new
  have perm2:(l.map λ i=>k3.getD i (0,0)).Perm kk:=by
   have:=hlp.map λ i=>k3.getD i (0,0)
   rw[<-hk3,k_]at this
   exact this.trans pk.symm
  have ndl:(l.map λ i=>k3.getD i (0,0)).Nodup:=perm2.nodup_iff.mpr ndk
  refine⟨.ref h1.objs.size,_,I3,rfl,q _ _ (l.map λ i=>k3.getD i (0,0)) hn ?_ ?_ perm2⟩
  ·rw[List.map_map]
   exact kZ l λ i hi=>⟨bo i,rfl,(hbo i (hlt i hi)).2⟩
  ·rw[List.nodup_iff_pairwise_ne]at ndl
   refine(hso.and ndl).imp λ{a b} ⟨h1,h2⟩=>?_
   cases e:pLt a b with
   | true=>rfl
   | false=>exact absurd (Tb.PO.total a b e h1) h2
 refine av (wpAny_holding ?_)
 by_cases h2:2<=vs.length
 ·refine zM (X:=λ i=>k3.getD i (0,0)) F1 (λ p hp=>?_) hneD h2 (by omega) (λ h' F' N' i v hv=>?_) λ p h' c P So F2 N2=>aw ⟨_,rfl,?_⟩
  ·rcases ar.mp hp with rfl | hp
   ·exact⟨hD,Nat.ne_of_gt hL,no _⟩
   ·exact N1 p hp
  ·have hi:i<es.size:=by
    have:=(List.getElem?_eq_some_iff.mp hv).1
    omega
   obtain⟨b,b1,b2⟩:=at_j i hi
   rw[hv]at b1
   cases b1
   refine⟨b,rfl,?_⟩
   have I2:Inv X pins σ H {s with heap:=h',toks:=s.toks}:=I.vz hm F' N'
   exact A2 I2.hok (k:=[_,_]) b2
  ·rw[hal]at P So
   refine fin p.toList h' c _ P.2 ?_ F2 N2
   rw[List.pairwise_map,List.pairwise_iff_getElem]
   intro i j hi hj hij
   have hjs:j<es.size:=by have:=P.size;simp at hj;omega
   have:=So i j (by omega) hjs
   unfold KeyOrd.kle Kp at this
   have gi:p.getD i 0=p.toList[i]:=by simp[Array.getD,show i<p.size by simpa using hi]
   have gj:p.getD j 0=p.toList[j]:=by simp[Array.getD,show j<p.size by simpa using hj]
   rw[gi,gj]at this
   exact this
 ·refine zN hD (by omega) λ h' c kp hc'=>aw ⟨_,rfl,?_⟩
  refine fin (List.range es.size) h' c _ (.refl _) ?_ ⟨F1.ns.at' λ o e=>kp _ o (Nat.ne_of_lt hL) e,(λ b o e=>by rw[no]at e;cases e),Nat.zero_le _⟩ λ p hp=>?_
  ·have:((List.range es.size).map λ i=>k3.getD i (0,0)).length<2:=by simp;omega
   match (List.range es.size).map (λ i=>k3.getD i (0,0)),this with
   | [],_=>exact .nil
   | [a],_=>exact List.pairwise_singleton _ _
  ·rcases ar.mp hp with rfl | hp
   ·refine⟨?_,Nat.ne_of_gt hL,no _⟩
    rw[<-hal,k_]
    exact hc'
   ·exact⟨kp _ _ (hneD p hp) (N1 p hp).1,(N1 p hp).2⟩
end
end L2
namespace L2
open PySem PySem.Spec PyProof.Rows
inductive Dt where
 | non | bl (b:Bool) | int (i:Int) | str (x:Str) | ty (n:String) | opq (v:V) | dct (kvs:List (Int×Int)) | tup (ds:List Dt) | lst (ds:List Dt)
noncomputable def kvD (kvs:List (Int×Int)):List (Key×V):=kvs.map λ p=>(Sum.inl p.1,V.int p.2)
mutual
inductive Is (K:PySem.W.Frag) (H:Hp):V->Dt->Prop
 | non:Is K H .non .non
 | bl (b:Bool):Is K H (.bl b) (.bl b)
 | int (i:Int):Is K H (.int i) (.int i)
 | str (x:Str):Is K H (.str x) (.str x)
 | ty (n:String):Is K H (.ty n) (.ty n)
 | opq (v:V):Is K H v (.opq v)
 | dct {a:Addr} {kvs:List (Int×Int)}:Rd H a (.dK (kvD kvs))->Is K H (.ref a) (.dct kvs)
 | tup {a:Addr} {xs:List V} {ds:List Dt}:SqT K H a xs->Iss K H xs ds->Is K H (.ref a) (.tup ds)
 | lst {a:Addr} {xs:List V} {ds:List Dt}:H a=some (.lst xs)->Iss K H xs ds->Is K H (.ref a) (.lst ds)
inductive Iss (K:PySem.W.Frag) (H:Hp):List V->List Dt->Prop
 | nil:Iss K H [] []
 | cons {x:V} {xs:List V} {d:Dt} {ds:List Dt}:Is K H x d->Iss K H xs ds->Iss K H (x::xs) (d::ds)
end
section
variable {K:PySem.W.Frag}{H H':Hp}
theorem Is.mono (ht:∀ a xs,SqT K H a xs->SqT K H' a xs)(hl:∀ a xs,H a=some (.lst xs)->H' a=some (.lst xs))(hd:∀ a u,Rd H a u->Rd H' a u){v:V}{d:Dt}(h:Is K H v d):Is K H' v d :=
 Is.rec (motive_1:=λ v d _=>Is K H' v d) (motive_2:=λ v d _=>Iss K H' v d) .non .bl .int .str .ty .opq (λ h=>.dct (hd _ _ h)) (λ h _ i=>.tup (ht _ _ h) i) (λ h _ i=>.lst (hl _ _ h) i) .nil (λ _ _ i j=>.cons i j) h
theorem Iss.mono (ht:∀ a xs,SqT K H a xs->SqT K H' a xs)(hl:∀ a xs,H a=some (.lst xs)->H' a=some (.lst xs))(hd:∀ a u,Rd H a u->Rd H' a u){v:List V}{d:List Dt}(h:Iss K H v d):Iss K H' v d :=
 Iss.rec (motive_1:=λ v d _=>Is K H' v d) (motive_2:=λ v d _=>Iss K H' v d) .non .bl .int .str .ty .opq (λ h=>.dct (hd _ _ h)) (λ h _ i=>.tup (ht _ _ h) i) (λ h _ i=>.lst (hl _ _ h) i) .nil (λ _ _ i j=>.cons i j) h
theorem a_.nC {a:Addr}{xs:List V}(e:a_ H H')(h:SqT K H a xs):SqT K H' a xs:=by
 rcases h with (h | ⟨o,h⟩) | h
 ·exact .inl (.inl (e _ _ h))
 ·exact .inl (.inr ⟨o,e _ _ h⟩)
 ·exact .inr h
theorem a_.rd {a:Addr}{u:HO}(e:a_ H H')(h:Rd H a u):Rd H' a u:=h.elim (λ h=>.inl (e _ _ h)) λ⟨o,h⟩=>.inr ⟨o,e _ _ h⟩
theorem Is.ext (e:a_ H H'){v:V}{d:Dt}(h:Is K H v d):Is K H' v d:=h.mono (λ _ _=>e.nC) (λ _ _ h=>e _ _ h) (λ _ _=>e.rd)
theorem Iss.ext (e:a_ H H'){v:List V}{d:List Dt}(h:Iss K H v d):Iss K H' v d:=h.mono (λ _ _=>e.nC) (λ _ _ h=>e _ _ h) (λ _ _=>e.rd)
theorem a_.upd {p:Addr}{o:HO}(h:H p=none):a_ H (upd H p o):=λ b u e=>by rw[aV (bw e h)];exact e
structure cF (H H':Hp):Prop where
 jE:∀ b xs,H b=some (.tup xs)->H' b=some (.tup xs)
 jn:∀ b o u,H b=some (.frz o u)->H' b=some (.frz o u)
theorem cF.refl:cF H H:=⟨λ _ _ h=>h,λ _ _ _ h=>h⟩
theorem cF.trans {H1 H2:Hp}(a:cF H H1)(b:cF H1 H2):cF H H2:=⟨λ c xs h=>b.jE c xs (a.jE c xs h),λ c o u h=>b.jn c o u (a.jn c o u h)⟩
theorem a_.text (e:a_ H H'):cF H H':=⟨λ b xs h=>e b _ h,λ b o u h=>e b _ h⟩
theorem cF.upd {p:Addr}{o:HO}(mu:Mut (H p)):cF H (upd H p o):=⟨λ b xs e=>by
  rw[aV (λ z=>by subst z;rw[e]at mu;exact mu)];exact e,λ b o u e=>by
  rw[aV (λ z=>by subst z;rw[e]at mu;exact mu)];exact e⟩
theorem cF.nC {a:Addr}{xs:List V}(e:cF H H')(h:SqT K H a xs):SqT K H' a xs:=by
 rcases h with (h | ⟨o,h⟩) | h
 ·exact .inl (.inl (e.jE _ _ h))
 ·exact .inl (.inr ⟨o,e.jn _ _ _ h⟩)
 ·exact .inr h
mutual
inductive Imm:Dt->Prop
 | non:Imm .non
 | bl (b:Bool):Imm (.bl b)
 | int (i:Int):Imm (.int i)
 | str (x:Str):Imm (.str x)
 | ty (n:String):Imm (.ty n)
 | opq (v:V):Imm (.opq v)
 | tup {ds:List Dt}:iW ds->Imm (.tup ds)
inductive iW:List Dt->Prop
 | nil:iW []
 | cons {d:Dt} {ds:List Dt}:Imm d->iW ds->iW (d::ds)
end
theorem Imm.bX {ds:List Dt}(h:Imm (.tup ds)):iW ds:=by cases h;assumption
theorem Imm.lst_inv {ds:List Dt}(h:Imm (.lst ds)):False:=by cases h
theorem Imm.i8 {ds:List (Int×Int)}(h:Imm (.dct ds)):False:=by cases h
theorem iW.inv {d:Dt}{ds:List Dt}(h:iW (d::ds)):Imm d/\iW ds:=by cases h;exact⟨by assumption,by assumption⟩
theorem Is.text (e:cF H H'){v:V}{d:Dt}(h:Is K H v d):Imm d->Is K H' v d :=
 Is.rec (motive_1:=λ v d _=>Imm d->Is K H' v d) (motive_2:=λ v d _=>iW d->Iss K H' v d) (λ _=>.non) (λ b _=>.bl b) (λ b _=>.int b) (λ b _=>.str b) (λ b _=>.ty b) (λ b _=>.opq b) (λ _ m=>m.i8.elim) (λ h _ i m=>.tup (e.nC h) (i m.bX)) (λ _ _ _ m=>m.lst_inv.elim) (λ _=>.nil) (λ _ _ i j m=>.cons (i m.inv.1) (j m.inv.2)) h
theorem Iss.text (e:cF H H'){v:List V}{d:List Dt}(h:Iss K H v d):iW d->Iss K H' v d :=
 Iss.rec (motive_1:=λ v d _=>Imm d->Is K H' v d) (motive_2:=λ v d _=>iW d->Iss K H' v d) (λ _=>.non) (λ b _=>.bl b) (λ b _=>.int b) (λ b _=>.str b) (λ b _=>.ty b) (λ b _=>.opq b) (λ _ m=>m.i8.elim) (λ h _ i m=>.tup (e.nC h) (i m.bX)) (λ _ _ _ m=>m.lst_inv.elim) (λ _=>.nil) (λ _ _ i j m=>.cons (i m.inv.1) (j m.inv.2)) h
theorem iW.of {ds:List Dt}(h:∀ d∈ds,Imm d):iW ds:=by
 induction ds with
 | nil=>exact .nil
 | cons d r ih=>exact .cons (h d ai) (ih λ x hx=>h x (ak _ hx))
theorem Iss.length {vs:List V}{ds:List Dt}(h:Iss K H vs ds):vs.length=ds.length:=by
 induction ds generalizing vs with
 | nil=>cases h;rfl
 | cons d r ih=>cases h with | cons h1 h2=>simp[ih h2]
theorem Iss.get {vs:List V}{ds:List Dt}(h:Iss K H vs ds){i:Nat}{d:Dt}(e:ds[i]?=some d):∃ v,vs[i]?=some v/\Is K H v d:=by
 induction ds generalizing vs i with
 | nil=>simp at e
 | cons c r ih =>
  cases h with
  | cons h1 h2 =>
   cases i with
   | zero=>simp at e;subst e;exact⟨_,rfl,h1⟩
   | succ i=>obtain⟨v,a,b⟩:=ih h2 (i:=i) (by simpa using e);exact⟨v,by simpa using a,b⟩
theorem Iss.append {vs ws:List V}{ds es:List Dt}(h:Iss K H vs ds)(h':Iss K H ws es):Iss K H (vs++ws) (ds++es):=by
 induction ds generalizing vs with
 | nil=>cases h;exact h'
 | cons d r ih=>cases h with | cons h1 h2=>exact .cons h1 (ih h2)
theorem Iss.snoc {vs:List V}{ds:List Dt}{v:V}{d:Dt}(h:Iss K H vs ds)(h':Is K H v d):Iss K H (vs++[v]) (ds++[d]):=h.append (.cons h' .nil)
theorem Iss.drop {vs:List V}{ds:List Dt}(h:Iss K H vs ds):∀ n,Iss K H (vs.drop n) (ds.drop n)
 := by
  intro n
  induction n generalizing vs ds with
  | zero=>exact h
  | succ n ih=>cases h with
    | nil=>exact .nil
    | cons _ h2=>exact ih h2
theorem Iss.ints {vs:List V}:∀ {ns:List Int},Iss K H vs (ns.map .int)->vs=ns.map V.int:=by
 intro ns h
 induction ns generalizing vs with
 | nil=>cases h;rfl
 | cons d r ih=>cases h with | cons h1 h2=>cases h1;rw[ih h2];rfl
theorem Iss.vA (ns:List Int):Iss K H (ns.map V.int) (ns.map .int):=by
 induction ns with
 | nil=>exact .nil
 | cons d r ih=>exact .cons (.int d) ih
end
noncomputable abbrev DE:=List (Option Dt)
structure Sat (K:PySem.W.Frag)(H:Hp)(σ:St)(δ:DE):Prop where
 len:σ.length=δ.length
 at_:∀ (i:Nat) (d:Dt),δ[i]?=some (some d)->∃ v,σ[i]?=some (some v)/\Is K H v d
section
variable {K:PySem.W.Frag}{H H':Hp}{σ:St}{δ:DE}
theorem Sat.ext (e:a_ H H')(h:Sat K H σ δ):Sat K H' σ δ:=⟨h.len,λ i d q=>let ⟨v,a,b⟩:=h.at_ i d q;⟨v,a,b.ext e⟩⟩
theorem Sat.set {i:Nat}{v:V}{d:Dt}(h:Sat K H σ δ)(q:Is K H v d):Sat K H (σ.set i (some v)) (δ.set i (some d)):=by
 refine⟨by simp[h.len],λ j e hj=>?_⟩
 by_cases hij:i=j
 ·subst hij
  by_cases hi:i<δ.length
  ·rw[List.getElem?_set_self hi]at hj
   cases hj
   exact⟨v,by rw[List.getElem?_set_self (by rw[h.len];exact hi)],q⟩
  ·rw[List.getElem?_eq_none (by simp;omega)]at hj;cases hj
 ·rw[List.getElem?_set_ne hij]at hj
  rw[List.getElem?_set_ne hij]
  exact h.at_ j e hj
theorem Sat.comp {own:List Str}{ix:List Nat}(h:Sat K H σ δ):Sat K H (d3 own ix σ) (own.map (λ _=>none)++ix.map λ i=>(δ[i]?).getD none):=by
 refine⟨by simp[d3],λ j e hj=>?_⟩
 have hl:own.length<=j:=by
  refine Nat.le_of_not_lt λ hlt=>?_
  rw[List.getElem?_append_left (by simpa using hlt),List.getElem?_map]at hj
  cases q:own[j]? with
  | none=>rw[q]at hj;cases hj
  | some a=>rw[q]at hj;cases hj
 unfold d3
 rw[List.getElem?_append_right (by simpa using hl),List.getElem?_map,ah]at hj ⊢
 cases q:ix[j-own.length]? with
 | none=>rw[q]at hj;cases hj
 | some i =>
  rw[q]at hj
  have hj:(δ[i]?).getD none=some e:=ao hj
  have:δ[i]?=some (some e):=by
   cases r:δ[i]? with
   | none=>rw[r]at hj;cases hj
   | some w=>rw[r]at hj;exact congrArg some hj
  obtain⟨v,a,b⟩:=h.at_ i e this
  exact⟨v,by rw[Option.map_some,a];rfl,b⟩
theorem Iss.start {N:List Str}{vs:List V}{ds:List Dt}(h:Iss K H vs ds):Sat K H (start N vs) (ds.map some++List.replicate (N.length-ds.length) none):=by
 refine⟨by simp[L2.start,h.length],λ j e hj=>?_⟩
 unfold L2.start
 by_cases hlt:j<ds.length
 ·rw[List.getElem?_append_left (by simpa using hlt),List.getElem?_map]at hj
  obtain⟨v,a,b⟩:=h.get (i:=j) (d:=e) (by
   cases q:ds[j]? with
   | none=>rw[q]at hj;cases hj
   | some w=>rw[q]at hj;cases hj;rfl)
  exact⟨v,by rw[List.getElem?_append_left (by rw[ah,h.length];exact hlt),List.getElem?_map,a];rfl,b⟩
 ·rw[List.getElem?_append_right (by simpa using Nat.le_of_not_lt hlt),List.getElem?_replicate]at hj
  split at hj<;>cases hj
end
noncomputable def tD (K:PySem.W.Frag)(g:DE->Option Dt):TE:=λ σ H Q=>∃ δ d,Sat K H σ δ/\g δ=some d/\∀ v H',a_ H H'->Is K H' v d->Q v H'
noncomputable def tDT (K:PySem.W.Frag)(g:DE->Option Bool):TT:=λ σ H Q=>∃ δ b,Sat K H σ δ/\g δ=some b/\∀ H',a_ H H'->Q b H'
noncomputable def tDs (K:PySem.W.Frag)(g:DE->Option (List Dt)):TA:=λ σ H Q=>∃ δ ds,Sat K H σ δ/\g δ=some ds/\∀ vs H',a_ H H'->Iss K H' vs ds->Q vs H'
noncomputable def rD (K:PySem.W.Frag)(f:Dt->Dt->Option Dt):R2:=λ x y H Q=>∃ dx dy d,Is K H x dx/\Is K H y dy/\f dx dy=some d/\∀ v H',a_ H H'->Is K H' v d->Q v H'
noncomputable def cD (K:PySem.W.Frag)(f:List Dt->Option Dt):List V->Hp->VK->Prop:=λ xs H Q=>∃ ds d,Iss K H xs ds/\f ds=some d/\∀ v H',a_ H H'->Is K H' v d->Q v H'
noncomputable def spD (K:PySem.W.Frag)(n:Nat)(f:List Dt->Option Dt):Sp:=λ xs H Q _=>∃ ds d,ds.length=n/\Iss K H xs ds/\f ds=some d/\∀ v H',a_ H H'->Is K H' v d->Q v H'
noncomputable def aN (i:Nat):DE->Option Dt:=λ δ=>(δ[i]?).join
noncomputable def gC (d:Dt):DE->Option Dt:=λ _=>some d
noncomputable def bg (f:Dt->Dt->Option Dt)(a b:DE->Option Dt):DE->Option Dt:=λ δ=>(a δ).bind λ x=>(b δ).bind λ y=>f x y
noncomputable def aP:DE->Option (List Dt):=λ _=>some []
section
variable {X:Cx}{e a b c:Expr}{es:List Expr}{pos:Pos}
theorem PE.of {t t':TE}(h:PE X e t)(w:∀ σ H Q,t' σ H Q->t σ H Q):PE X e t':=λ pins s σ H Q I q=>h pins s σ H Q I (w σ H Q q)
theorem PT.of {t t':TT}(h:PT X e t)(w:∀ σ H Q,t' σ H Q->t σ H Q):PT X e t':=λ pins s σ H Q I q=>h pins s σ H Q I (w σ H Q q)
theorem PW.of {t t':TT}(h:PW X e t)(w:∀ σ H Q,t' σ H Q->t σ H Q):PW X e t':=λ wh pins s σ H Q I q=>h wh pins s σ H Q I (w σ H Q q)
theorem PA.of {t t':TA}(h:PA X es t)(w:∀ σ H Q,t' σ H Q->t σ H Q):PA X es t':=λ p pins s σ H Q I q=>h p pins s σ H Q I (w σ H Q q)
theorem PS.of {st:Stmt}{t t':TS}(h:PS X st t)(w:∀ D σ H,t' D σ H->t D σ H):PS X st t':=λ pins s σ H D I q=>h pins s σ H D I (w D σ H q)
theorem PSs.of {st:List Stmt}{t t':TS}(h:PSs X st t)(w:∀ D σ H,t' D σ H->t D σ H):PSs X st t':=λ pins s σ H D I q=>h pins s σ H D I (w D σ H q)
noncomputable abbrev PD (X:Cx)(e:Expr)(g:DE->Option Dt):Prop:=PE X e (tD X.K g)
noncomputable abbrev PDT (X:Cx)(e:Expr)(g:DE->Option Bool):Prop:=PT X e (tDT X.K g)
noncomputable abbrev PDW (X:Cx)(e:Expr)(g:DE->Option Bool):Prop:=PW X e (tDT X.K g)
noncomputable abbrev PDs (X:Cx)(es:List Expr)(g:DE->Option (List Dt)):Prop:=PA X es (tDs X.K g)
theorem D0 {i:Nat}{δ:DE}{d:Dt}(h:aN i δ=some d):δ[i]?=some (some d):=by
 unfold aN at h
 cases q:δ[i]? with
 | none=>rw[q]at h;cases h
 | some w=>rw[q]at h;exact congrArg some h
theorem dv (i:Nat){x:Str}(hN:X.N[i]?=some x:=by rfl)(hv:Vis X.env.scope x:=by trivial)(hd:(x==("__debug__":Str))=false:=by decide)
  (hcd:(x==("__classdict__":Str))=false:=by decide):PD X (.Name x pos) (aN i) :=
 (C7 hN hv hd hcd).of λ σ H Q hz1=>by
  obtain⟨δ,d,S,e,q⟩:=hz1
  obtain⟨v,h1,h2⟩:=S.at_ i d (D0 e)
  exact⟨v,h1,q v H (a_.refl H) h2⟩
theorem bD {i:Int}{j}:PD X (.Constant (.int i) j pos) (gC (.int i)):=bA.of λ σ H Q ⟨δ,d,S,e,q⟩=>by cases e;exact q _ H (a_.refl H) (.int i)
theorem o9 {i:Bool}{j}:PD X (.Constant (.bool i) j pos) (gC (.bl i)):=Hr.of λ σ H Q ⟨δ,d,S,e,q⟩=>by cases e;exact q _ H (a_.refl H) (.bl i)
theorem zO {x:Str}{u:Value}{v:V}{d:Dt}(hm:X.mg x=some u)(r:RelV v u)(hI:∀ H,Is X.K H v d)(hg:Gl X x:=by rfl)(hd:(x==("__debug__":Str))=false:=by decide):PD X (.Name x pos) (gC d) :=
 (FK hg hm r hd).of λ σ H Q ⟨δ,d',S,e,q⟩=>by cases e;exact q _ H (a_.refl H) (hI H)
theorem zP {x:Str}{T:String}(hm:X.mg x=none)(hv:bootBuiltins x=some (.type T))(hg:Gl X x:=by rfl)(hn:x≠"__name__":=by decide)(hd:(x==("__debug__":Str))=false:=by decide):PD X (.Name x pos) (gC (.ty T)) :=
 (FL (v:=.ty T) hg hm hv rfl hn hd).of λ σ H Q ⟨δ,d',S,e,q⟩=>by cases e;exact q _ H (a_.refl H) (.ty T)
theorem xE {f:Dt->Dt->Option Dt}{ga gb:DE->Option Dt}{δ:DE}{d:Dt}(h:bg f ga gb δ=some d):∃ x y,ga δ=some x/\gb δ=some y/\f x y=some d:=by
 unfold bg at h
 cases p:ga δ with
 | none=>rw[p]at h;cases h
 | some x =>
  rw[p]at h
  cases q:gb δ with
  | none=>rw[aa,q]at h;cases h
  | some y=>rw[aa,q,aa]at h;exact⟨x,y,rfl,rfl,h⟩
theorem vB {K:PySem.W.Frag}{f:Dt->Dt->Option Dt}{ga gb:DE->Option Dt}(σ:St)(H:Hp)(Q:VK)(h:tD K (bg f ga gb) σ H Q):tOp (rD K f) (tD K ga) (tD K gb) σ H Q:=by
 obtain⟨δ,d,S,e,q⟩:=h
 obtain⟨x,y,e1,e2,e3⟩:=xE e
 refine⟨δ,x,S,e1,λ v H1 s1 i1=>⟨δ,y,S.ext s1,e2,λ w H2 s2 i2=>⟨x,y,d,i1.ext s2,i2,e3,λ u H3 s3 i3=>q u H3 ((s1.trans s2).trans s3) i3⟩⟩⟩
theorem eY {op:Operator}{f:Dt->Dt->Option Dt}{ga gb:DE->Option Dt}(ho:OpR X (binaryOp op) (rD X.K f))(ha:PD X a ga)(hb:PD X b gb):PD X (.BinOp a op b pos) (bg f ga gb):=(cW ho ha hb).of vB
theorem si {op:CmpOp}{f:Dt->Dt->Option Dt}{ga gb:DE->Option Dt}(ho:OpR X (compareOp op) (rD X.K f))(ha:PD X a ga)(hb:PD X b gb)(hm:behindInMarks op b=false:=by first | exact rC _ | with_unfolding_all rfl):PD X (.Compare a [op] [b] pos) (bg f ga gb):=(FQ ho ha hb hm).of vB
noncomputable def asB:Dt->Option Bool
 | .bl b=>some b
 | _=>none
theorem vC {d:Dt}{b:Bool}(h:asB d=some b):d=.bl b:=by cases d<;>simp[asB]at h;rw[h]
noncomputable def gB (g:DE->Option Dt):DE->Option Bool:=λ δ=>(g δ).bind asB
theorem zQ {g:DE->Option Dt}{δ:DE}{b:Bool}(h:gB g δ=some b):g δ=some (.bl b):=by
 unfold gB at h
 cases p:g δ with
 | none=>rw[p]at h;cases h
 | some x=>rw[p]at h;rw[vC h]
theorem Is.fI {K:PySem.W.Frag}{H:Hp}{v:V}{b:Bool}(h:Is K H v (.bl b)):v=.bl b:=by cases h;rfl
theorem Is.int_inv {K:PySem.W.Frag}{H:Hp}{v:V}{b:Int}(h:Is K H v (.int b)):v=.int b:=by cases h;rfl
theorem Is.str_inv {K:PySem.W.Frag}{H:Hp}{v:V}{b:Str}(h:Is K H v (.str b)):v=.str b:=by cases h;rfl
theorem Is.Gd {K:PySem.W.Frag}{H:Hp}{v:V}{b:V}(h:Is K H v (.opq b)):v=b:=by cases h;rfl
theorem Is.Jb {K:PySem.W.Frag}{H:Hp}{v:V}{b:String}(h:Is K H v (.ty b)):v=.ty b:=by cases h;rfl
theorem Is.bX {K:PySem.W.Frag}{H:Hp}{v:V}{ds:List Dt}(h:Is K H v (.tup ds)):∃ a xs,v=.ref a/\SqT K H a xs/\Iss K H xs ds:=by cases h;exact⟨_,_,rfl,by assumption,by assumption⟩
theorem Is.i8 {K:PySem.W.Frag}{H:Hp}{v:V}{ds:List (Int×Int)}(h:Is K H v (.dct ds)):∃ a,v=.ref a/\Rd H a (.dK (kvD ds)):=by cases h;exact⟨_,rfl,by assumption⟩
theorem Is.lst_inv {K:PySem.W.Frag}{H:Hp}{v:V}{ds:List Dt}(h:Is K H v (.lst ds)):∃ a xs,v=.ref a/\H a=some (.lst xs)/\Iss K H xs ds:=by cases h;exact⟨_,_,rfl,by assumption,by assumption⟩
theorem HD {K:PySem.W.Frag}{g:DE->Option Dt}(σ:St)(H:Hp)(Q:Bool->Hp->Prop)(h:tDT K (gB g) σ H Q):tD K g σ H λ x H'=>∃ k,x=.bl k/\Q k H':=by
 obtain⟨δ,b,S,e,q⟩:=h
 exact⟨δ,_,S,zQ e,λ v H1 s1 i1=>⟨b,i1.fI,q H1 s1⟩⟩
theorem dh {op:CmpOp}{f:Dt->Dt->Option Dt}{ga gb:DE->Option Dt}(ho:OpR X (compareOp op) (rD X.K f))(ha:PD X a ga)(hb:PD X b gb)(hm:behindInMarks op b=false:=by first | exact rC _ | with_unfolding_all rfl):PDT X (.Compare a [op] [b] pos) (gB (bg f ga gb)) :=
 (qN ho ha hb hm).of λ σ H Q h=>vB σ H _ (HD σ H Q h)
noncomputable def o_ (f f':Dt->Dt->Option Dt)(ga gb gc:DE->Option Dt):DE->Option Dt:=λ δ=>(ga δ).bind λ x=>(gb δ).bind λ y=>(f x y).bind λ z=>(asB z).bind λ k=>if k=true then (gc δ).bind λ w=>f' y w else some (.bl false)
theorem aQ {α β:Type}{o:Option α}{f:α->Option β}{b:β}(h:o.bind f=some b):∃ a,o=some a/\f a=some b:=by
 cases o with
 | none=>cases h
 | some a=>exact⟨a,rfl,h⟩
theorem xF {K:PySem.W.Frag}{f f':Dt->Dt->Option Dt}{ga gb gc:DE->Option Dt}(σ:St)(H:Hp)(Q:VK)(h:tD K (o_ f f' ga gb gc) σ H Q):zj (rD K f) (rD K f') (tD K ga) (tD K gb) (tD K gc) σ H Q:=by
 obtain⟨δ,d,S,e,q⟩:=h
 obtain⟨x,e1,e⟩:=aQ e
 obtain⟨y,e2,e⟩:=aQ e
 obtain⟨z,e3,e⟩:=aQ e
 obtain⟨k,e4,e⟩:=aQ e
 have e4:=vC e4
 subst e4
 refine⟨δ,x,S,e1,λ v H1 s1 i1=>⟨δ,y,S.ext s1,e2,λ w H2 s2 i2=>⟨x,y,_,i1.ext s2,i2,e3,λ u H3 s3 i3=>⟨k,i3.fI,?_⟩⟩⟩⟩
 cases k with
 | true =>
  obtain⟨w',e5,e6⟩:=aQ (show(gc δ).bind _=_ from e)
  rw[ae rfl]
  exact⟨δ,w',S.ext ((s1.trans s2).trans s3),e5,λ u' H4 s4 i4=>⟨y,w',d,(i2.ext s3).ext s4,i4,e6,λ u5 H5 s5 i5=>q u5 H5 ((((s1.trans s2).trans s3).trans s4).trans s5) i5⟩⟩
 | false =>
  rw[af aq]
  cases (show some (Dt.bl false)=some d from e)
  exact q _ H3 ((s1.trans s2).trans s3) (.bl false)
theorem Ge {op op':CmpOp}{f f':Dt->Dt->Option Dt}{ga gb gc:DE->Option Dt}(ho:OpR X (compareOp op) (rD X.K f))(ho':OpR X (compareOp op') (rD X.K f'))(ha:PD X a ga)(hb:PD X b gb)(hc:PD X c gc)
  (hm:lastMarks [op,op'] [b,c]=false:=by with_unfolding_all rfl):PD X (.Compare a [op,op'] [b,c] pos) (o_ f f' ga gb gc):=(Di ho ho' ha hb hc hm).of xF
theorem D1 {op op':CmpOp}{f f':Dt->Dt->Option Dt}{ga gb gc:DE->Option Dt}(ho:OpR X (compareOp op) (rD X.K f))(ho':OpR X (compareOp op') (rD X.K f'))(ha:PD X a ga)(hb:PD X b gb)(hc:PD X c gc)
  (hm:lastMarks [op,op'] [b,c]=false:=by with_unfolding_all rfl):PDT X (.Compare a [op,op'] [b,c] pos) (gB (o_ f f' ga gb gc)):=(Dj ho ho' ha hb hc hm).of λ σ H Q h=>xF σ H _ (HD σ H Q h)
noncomputable def tX (ga gb:DE->Option Dt):DE->Option Dt:=λ δ=>(gB ga δ).bind λ k=>if k=true then gb δ else some (.bl false)
noncomputable def gOr (ga gb:DE->Option Dt):DE->Option Dt:=λ δ=>(gB ga δ).bind λ k=>if k=true then some (.bl true) else gb δ
noncomputable def Jc (ga:DE->Option Dt):DE->Option Dt:=λ δ=>(gB ga δ).map λ k=>.bl (!k)
theorem uK {op}{g:DE->Option Dt}(h:PD X a g):PD X (.BoolOp op [a] pos) g:=Iu h
theorem sj {rest:List Expr}{ga gb:DE->Option Dt}(ha:PD X a ga)(hb:PD X (.BoolOp .And (b::rest) pos) gb):PD X (.BoolOp .And (a::b::rest) pos) (tX ga gb) :=
 (Iv ha hb).of λ σ H Q hz2=>by
  obtain⟨δ,d,S,e,q⟩:=hz2
  obtain⟨k,e1,e⟩:=aQ e
  refine⟨δ,_,S,zQ e1,λ v H1 s1 i1=>⟨k,i1.fI,?_⟩⟩
  cases k with
  | true=>rw[ae rfl]at e ⊢;exact⟨δ,d,S.ext s1,e,λ u H2 s2 i2=>q u H2 (s1.trans s2) i2⟩
  | false=>rw[af aq]at e ⊢;cases e;exact q _ H1 s1 (.bl false)
theorem br {α β:Type}{o:Option α}{f:α->β}{b:β}(h:o.map f=some b):∃ a,o=some a/\f a=b:=by
 cases o with
 | none=>cases h
 | some a=>exact⟨a,rfl,ao h⟩
theorem KU {ga:DE->Option Dt}(ha:PD X a ga):PD X (.UnaryOp .Not a pos) (Jc ga) :=
 (Iw ha).of λ σ H Q hz4=>by
  obtain⟨δ,d,S,e,q⟩:=hz4
  obtain⟨k,e1,e⟩:=br e
  subst e
  exact⟨δ,_,S,zQ e1,λ v H1 s1 i1=>⟨k,i1.fI,q _ H1 s1 (.bl _)⟩⟩
noncomputable def KW (ga gb:DE->Option Bool):DE->Option Bool:=λ δ=>(ga δ).bind λ k=>if k=true then gb δ else some false
noncomputable def qw (ga gb:DE->Option Bool):DE->Option Bool:=λ δ=>(ga δ).bind λ k=>if k=true then some true else gb δ
noncomputable def gK (ga:DE->Option Bool):DE->Option Bool:=λ δ=>(ga δ).map (!·)
theorem f7 {ga:DE->Option Bool}(ha:PDT X a ga):PDT X (.UnaryOp .Not a pos) (gK ga) :=
 (Ir ha).of λ σ H Q hz5=>by
  obtain⟨δ,d,S,e,q⟩:=hz5
  obtain⟨k,e1,e⟩:=br e
  subst e
  exact⟨δ,_,S,e1,λ H1 s1=>q H1 s1⟩
theorem la {ga:DE->Option Bool}(ha:PDT X a ga):PDW X (.BoolOp .Or [a] pos) ga:=Iq ha
theorem qf {rest:List Expr}{ga gb:DE->Option Bool}(ha:PDT X a ga)(hb:PDW X (.BoolOp .Or (b::rest) pos) gb):PDW X (.BoolOp .Or (a::b::rest) pos) (qw ga gb) :=
 (Kv ha hb).of λ σ H Q hz7=>by
  obtain⟨δ,d,S,e,q⟩:=hz7
  obtain⟨k,e1,e⟩:=aQ e
  refine⟨δ,_,S,e1,λ H1 s1=>?_⟩
  cases k with
  | false=>rw[af aq]at e ⊢;exact⟨δ,d,S.ext s1,e,λ H2 s2=>q H2 (s1.trans s2)⟩
  | true=>rw[ae rfl]at e ⊢;cases e;exact q H1 s1
theorem xG {ga:DE->Option Bool}(h:PDW X a ga):PDT X a ga:=h.pt
noncomputable def gIf (gc:DE->Option Bool)(ga gb:DE->Option Dt):DE->Option Dt:=λ δ=>(gc δ).bind λ k=>if k=true then ga δ else gb δ
theorem KY {gc:DE->Option Bool}{ga gb:DE->Option Dt}(hc:PDT X c gc)(ha:PD X a ga)(hb:PD X b gb):PD X (.IfExp c a b pos) (gIf gc ga gb) :=
 (C9 hc ha hb).of λ σ H Q hz8=>by
  obtain⟨δ,d,S,e,q⟩:=hz8
  obtain⟨k,e1,e⟩:=aQ e
  refine⟨δ,_,S,e1,λ H1 s1=>?_⟩
  cases k with
  | true=>rw[ae rfl]at e ⊢;exact⟨δ,d,S.ext s1,e,λ u H2 s2 i2=>q u H2 (s1.trans s2) i2⟩
  | false=>rw[af aq]at e ⊢;exact⟨δ,d,S.ext s1,e,λ u H2 s2 i2=>q u H2 (s1.trans s2) i2⟩
noncomputable def zR:Dt->Option Bool
 | .non=>some false
 | .bl b=>some b
 | .int i=>some (i != 0)
 | .str x=>if x.length<=1000 then some ((x.length:Int) != 0) else none
 | .ty _=>none
 | .opq _=>none
 | .dct _=>none
 | .tup ds=>some (!ds.isEmpty)
 | .lst ds=>some (!ds.isEmpty)
theorem nD {n:Nat}(h:n<=1000):n<=sizeLine:=by rw[sizeLine_eq];omega
theorem Iss.isEmpty {K:PySem.W.Frag}{H:Hp}{vs:List V}{ds:List Dt}(h:Iss K H vs ds):vs.isEmpty=ds.isEmpty:=by cases h<;>rfl
set_option tactic.hygienic true in
theorem Gf {K:PySem.W.Frag}{H:Hp}{v:V}{d:Dt}{k:Bool}(h:Is K H v d)(e:zR d=some k):FR K v H k:=by
 cases h with
 | non=>cases e;rfl
 | bl b=>cases e;rfl
 | int b=>cases e;rfl
 | ty n=>cases e
 | opq n=>cases e
 | dct h=>cases e
 | str x =>
  have e:(if x.length<=1000 then some ((x.length:Int) != 0) else none)=some k:=e
  split at e
  ·rename_i h
   cases e;exact⟨nD h,rfl⟩
  ·cases e
 | tup h1 h2=>cases e;exact .inr (.inl ⟨_,h1,by rw[h2.isEmpty]⟩)
 | lst h1 h2=>cases e;exact .inl ⟨_,SqL.of h1,by rw[h2.isEmpty]⟩
noncomputable def gTr (g:DE->Option Dt):DE->Option Bool:=λ δ=>(g δ).bind zR
theorem f9 {g:DE->Option Dt}(h:PD X e g)(he:∀ whole,isTrue e X.env whole=(do let v<-whole;standAt e.pos;holding [v] (truthy v)):=by intro _;rfl):PDT X e (gTr g) :=
 (xg h he).of λ σ H Q hz9=>by
  obtain⟨δ,d,S,e,q⟩:=hz9
  obtain⟨x,e1,e2⟩:=aQ e
  exact⟨δ,x,S,e1,λ v H1 s1 i1=>⟨d,Gf i1 e2,q H1 s1⟩⟩
noncomputable def aK (g:DE->Option Dt)(gs:DE->Option (List Dt)):DE->Option (List Dt):=λ δ=>(g δ).bind λ x=>(gs δ).map λ r=>x::r
theorem aR:PDs X [] aP:=bx.of λ σ H Q ⟨δ,d,S,e,q⟩=>by cases e;exact q [] H (a_.refl H) .nil
theorem aL {g:DE->Option Dt}{gs:DE->Option (List Dt)}(ha:PD X e g)(hr:PDs X es gs)(hs:starEach (e::es) X.env=(false,eval e X.env)::starEach es X.env:=by rfl):PDs X (e::es) (aK g gs) :=
 (aW ha hr hs).of λ σ H Q hz10=>by
  obtain⟨δ,d,S,e,q⟩:=hz10
  obtain⟨x,e1,e⟩:=aQ e
  obtain⟨r,e2,e⟩:=br e
  subst e
  exact⟨δ,x,S,e1,λ v H1 s1 i1=>⟨δ,r,S.ext s1,e2,λ vs H2 s2 i2=>q (v::vs) H2 (s1.trans s2) (.cons (i1.ext s2) i2)⟩⟩
noncomputable def eU (gs:DE->Option (List Dt)):DE->Option Dt:=λ δ=>(gs δ).bind λ ds=>if ds.length<=1000 then some (.tup ds) else none
noncomputable def xH (gs:DE->Option (List Dt)):DE->Option Dt:=λ δ=>(gs δ).bind λ ds=>if ds.length<=1000 then some (.lst ds) else none
set_option tactic.hygienic true in
theorem lg {gs:DE->Option (List Dt)}{x1}(h:PDs X es gs):PD X (.Tuple es x1 pos) (eU gs) :=
 (oW h).of λ σ H Q hz11=>by
  obtain⟨δ,d,S,e,q⟩:=hz11
  obtain⟨ds,e1,e⟩:=aQ e
  split at e
  ·cases e
   rename_i hl
   exact⟨δ,ds,S,e1,λ vs H1 s1 i1=>⟨nD (by rw[i1.length];exact hl),λ p hp=>q _ _ (s1.trans (a_.upd hp)) (.tup (SqT.of aU) (i1.ext (a_.upd hp)))⟩⟩
  ·cases e
set_option tactic.hygienic true in
theorem D2 {gs:DE->Option (List Dt)}(h:PDs X es gs):PD X (.List es pos) (xH gs) :=
 (jU h).of λ σ H Q hz12=>by
  obtain⟨δ,d,S,e,q⟩:=hz12
  obtain⟨ds,e1,e⟩:=aQ e
  split at e
  ·cases e
   rename_i hl
   exact⟨δ,ds,S,e1,λ vs H1 s1 i1=>⟨nD (by rw[i1.length];exact hl),λ p hp=>q _ _ (s1.trans (a_.upd hp)) (.lst aU (i1.ext (a_.upd hp)))⟩⟩
  ·cases e
noncomputable def bK (f:List Dt->Option Dt)(gs:DE->Option (List Dt)):DE->Option Dt:=λ δ=>(gs δ).bind f
theorem HE {K:PySem.W.Frag}{f:List Dt->Option Dt}{gs:DE->Option (List Dt)}(σ:St)(H:Hp)(Q:VK)(h:tD K (bK f gs) σ H Q):tCB (cD K f) (tDs K gs) σ H Q:=by
 obtain⟨δ,d,S,e,q⟩:=h
 obtain⟨ds,e1,e2⟩:=aQ e
 exact⟨δ,ds,S,e1,λ vs H1 s1 i1=>⟨ds,d,i1,e2,λ v H2 s2 i2=>q v H2 (s1.trans s2) i2⟩⟩
theorem bG {x:Str}{p:Pos}{id:String}{f:List Dt->Option Dt}{gs:DE->Option (List Dt)}(hc:cG X (.builtin id) (cD X.K f))(hm:X.mg x=none)(hv:bootBuiltins x=some (.builtin id))(ha:PDs X (e::es) gs)(hg:Gl X x:=by rfl)(hn:x≠"__name__":=by decide)(hdb:(x==("__debug__":Str))=false:=by decide)
  (he:starEach (e::es) X.env=(false,eval e X.env)::starEach es X.env:=by rfl) (hpl:(backTo pos (starEach es X.env)).any (·.1)=false:=by rfl):PD X (.Call (.Name x p) (e::es) [] pos) (bK f gs):=(fH hc hg hm hv ha hn hdb he hpl).of HE
theorem iH {x:Str}{p:Pos}{T:String}{f:List Dt->Option Dt}{gs:DE->Option (List Dt)}(hc:cG X (.type T) (cD X.K f))(hm:X.mg x=none)(hv:bootBuiltins x=some (.type T))(ha:PDs X (e::es) gs)(hg:Gl X x:=by rfl)(hn:x≠"__name__":=by decide)(hdb:(x==("__debug__":Str))=false:=by decide)
  (he:starEach (e::es) X.env=(false,eval e X.env)::starEach es X.env:=by rfl) (hpl:(backTo pos (starEach es X.env)).any (·.1)=false:=by rfl):PD X (.Call (.Name x p) (e::es) [] pos) (bK f gs):=(jG hc hg hm hv ha hn hdb he hpl).of HE
noncomputable def aT (n:Nat)(f:List Dt->Option Dt)(gs:DE->Option (List Dt)):DE->Option Dt:=λ δ=>(gs δ).bind λ ds=>if ds.length=n then f ds else none
set_option tactic.hygienic true in
theorem Jd {x:Str}{p:Pos}{k n:Nat}{f:Addr}{fd:FuncData}{ps:List Str}{fD:List Dt->Option Dt}{gs:DE->Option (List Dt)}(F:bQ X.prog X.w X.K X.mg X.base CX0 k f fd ps (spD X.K n fD))(hr:fG k X.A)(hm:X.mg x=some (.ref f))(hk:PySem.W.keepIn X.K (.ref f)=true)(hb:Binds X.K fd ps [])
  (ha:PDs X (e::es) gs) (hg:Gl X x:=by rfl) (hdb:(x==("__debug__":Str))=false:=by decide) (he:starEach (e::es) X.env=(false,eval e X.env)::starEach es X.env:=by rfl) (hpl:(backTo pos (starEach es X.env)).any (·.1)=false:=by rfl) :
  PD X (.Call (.Name x p) (e::es) [] pos) (aT n fD gs) :=
 (cX F hr hg hm hk hb .nil gJ ha hdb he hpl).of λ σ H Q hz13=>by
  obtain⟨δ,d,S,e,q⟩:=hz13
  obtain⟨ds,e1,e2⟩:=aQ e
  split at e2
  ·rename_i hl
   exact⟨δ,ds,S,e1,λ vs H1 s1 i1=>by
    show spD X.K n fD (vs++[]) H1 Q E0
    rw[List.append_nil];exact⟨ds,d,hl,i1,e2,λ v H2 s2 i2=>q v H2 (s1.trans s2) i2⟩⟩
  ·cases e2
end
end L2
namespace Zp
open PySem PySem.Spec PyProof.Rows
section
variable {prog:Program}{w:World}{A:Around}{E:Value->Shared->Prop}{s:Shared}
theorem Gg {j t:Addr}{k:Nat}{arr:Array Value}{y:Value}{Q:Value->Shared->Prop}(hj:s.heap.IsTupleIter j t k)(ht:s.heap.IsTuple t arr)(hy:arr[k]?=some y)
  (fin:∀ g,g.IsTupleIter j t (k+1)->Heap.SameBut j s.heap g->Q y {s with heap:=g}):wpAny (model prog w) A (Builtin.SmallTypes.nextOf (.ref j)) Q E s:=by
 have hty:=hj.typeIs
 obtain⟨oj,gj,cj,dj⟩:=hj
 obtain⟨ot,gt,_,nt,dt⟩:=ht
 unfold Builtin.SmallTypes.nextOf
 refine av (wpAny_callSpecial?_slot (name:=Str.ofString "__next__") hty F.slot_tuple_iterator_next (wpAny_call_entry F.slot_tuple_iterator_next hty F.entry_tuple_iterator_next ?_ (F.args_tuple_iterator_next_1 _)))
 show wpAny _ _ (field (.ref j) 0>>=_) _ _ s
 refine av (wpAny_field gj dj (x:=.ref t) rfl ?_)
 show wpAny _ _ (if (Value.ref t==Value.none)=true then _ else _) _ _ s
 rw[af (show ¬ (Value.ref t==Value.none)=true from λ q=>aq q)]
 show wpAny _ _ (field (.ref j) 1>>=_) _ _ s
 refine av (wpAny_field gj dj (x:=.int k 0) rfl ?_)
 show wpAny _ _ (seqItems? (.ref t)>>=_) _ _ s
 refine av (wpAny_seqItems gt dt ?_)
 simp only[hy,Int.toNat_natCast]
 refine av (wpAny_setField gj dj (by simp) (aw ⟨y,rfl,aw (fin _ ⟨_,Heap.get?_update_self _ gj (Obj.isFreed_of_fields (Obj.data_mapFields dj _)),(Obj.cls_mapFields ..).trans cj,?_⟩ (Heap.SameBut.update ..))⟩))
 rw[Obj.data_mapFields dj]
 simp[rawInt]
theorem zS {j t:Addr}{k:Nat}{arr:Array Value}{Q:Value->Shared->Prop}(hh:A.handled=none)(hj:s.heap.IsTupleIter j t k)(ht:s.heap.IsTuple t arr)(hy:arr[k]?=none)
  (fin:∀ g e,Heap.ExtBut j s.heap g->(∃ o,g.get? e=some o/\o.cls=.type "StopIteration")->E (.ref e) {s with heap:=g}):wpAny (model prog w) A (Builtin.SmallTypes.nextOf (.ref j)) Q E s:=by
 have hty:=hj.typeIs
 obtain⟨oj,gj,cj,dj⟩:=hj
 obtain⟨ot,gt,_,nt,dt⟩:=ht
 unfold Builtin.SmallTypes.nextOf
 refine av (wpAny_callSpecial?_slot (name:=Str.ofString "__next__") hty F.slot_tuple_iterator_next (wpAny_call_entry F.slot_tuple_iterator_next hty F.entry_tuple_iterator_next ?_ (F.args_tuple_iterator_next_1 _)))
 show wpAny _ _ (field (.ref j) 0>>=_) _ _ s
 refine av (wpAny_field gj dj (x:=.ref t) rfl ?_)
 show wpAny _ _ (if (Value.ref t==Value.none)=true then _ else _) _ _ s
 rw[af (show ¬ (Value.ref t==Value.none)=true from λ q=>aq q)]
 show wpAny _ _ (field (.ref j) 1>>=_) _ _ s
 refine av (wpAny_field gj dj (x:=.int k 0) rfl ?_)
 show wpAny _ _ (seqItems? (.ref t)>>=_) _ _ s
 refine av (wpAny_seqItems gt dt ?_)
 simp only[hy,Int.toNat_natCast]
 refine av (wpAny_rule (av (wpAny_setField gj dj (by simp) (show wpAny _ _ (newExc (.type "StopIteration") []>>=_) _ _ _ from av ?_))))
 simp only[newTuple,newExc]
 refine av (wpAny_newObj_type (av (m:=firstArgMember _ _) (wpAny_of_eq (a:=Value.none) (by first | rfl | (simp only[firstArgMember];rfl)) (wpAny_newObj_type ?_ (by size_fits)))) (by size_fits))
 simp only[raiseNew]
 refine av (wpAny_handled ?_)
 first | rw[hh] | rw[show A.in1.handled=none from hh]
 exact av (aw (wpAny_throw (fin _ _ (((Heap.SameBut.update ..).extBut.push _).push _) ⟨_,aG _ rfl,rfl⟩)))
theorem D3 (hh:A.handled=none)(j t:Addr)(ne:t≠j)(arr:Array Value):Draws prog w A j [j,t] arr.size (λ i v=>arr[i]?=some v) (λ i h=>h.IsTupleIter j t i/\h.IsTuple t arr) where
 live:=λ _ _ st=>let ⟨o,ho,_⟩:=st.1;⟨o,ho⟩
 frame:=λ _ _ _ st hk=>⟨let ⟨o,ho,r⟩:=st.1;⟨o,hk j (by simp) o ho,r⟩,let ⟨o,ho,r⟩:=st.2;⟨o,hk t (by simp) o ho,r⟩⟩
 item:=λ i s Q E hi st fin=>Gg st.1 st.2 (y:=arr[i]) (by simp[hi]) λ g a b=>fin _ g s.toks (by simp[hi]) ⟨a,st.2.extBut b.extBut ne⟩ b
 done:=λ s Q E st fin=>zS hh st.1 st.2 (by simp) fin
structure Ap (z T O i j:Addr)(f g:List Addr):Prop where
 Tz:T≠z
 Oz:O≠z
 TO:T≠O
 iz:i≠z
 jz:j≠z
 Ti:T≠i
 Tj:T≠j
 Oi:O≠i
 Oj:O≠j
 ij:i≠j
 zf:z∉f
 zg:z∉g
 Of:O∉f
 Og:O∉g
 jf:j∉f
 ig:i∉g
variable {z T O i j:Addr}{f g:List Addr}{n m:Nat}{P R:Nat->Value->Prop}{S U:Nat->Heap->Prop}
theorem KZ (ap:Ap z T O i j f g)(C:Draws prog w A i f n P S)(D:Draws prog w A j g m R U){k:Nat}{a b:Value}{Q:Value->Shared->Prop}(hn:k<n)(hm:k<m)
  (hz:IsZip s.heap z T O .none) (hT:IsPair s.heap T (.ref i) (.ref j)) (hO:IsPair s.heap O a b) (h1:S k s.heap) (h2:U k s.heap)
  (fin:∀ h' N tk x y,P k x->R k y->s.heap.objs.size<=N->IsZip h' z T O (rawInt N)->IsPair h' O x y->S (k+1) h'->U (k+1) h'->IsPair h' N x y ->
   (∀ c o,c≠z->c≠O->c≠i->c≠j->s.heap.get? c=some o->h'.get? c=some o)->Q (.ref N) {s with heap:=h',toks:=tk}) :
  wpAny (model prog w) A (Builtin.«zip.__next__» ⟨[.ref z],[]⟩) (λ fn s'=>∃ v,fn=.done (.ret v)/\Q v s') E s:=by
 show wpAny _ _ (field (.ref z) 2>>=_) _ _ _
 refine av (wpAny_field hz rfl (x:=.bool false) rfl (show wpAny _ _ (field (.ref z) 3>>=_) _ _ _ from av (wpAny_field hz rfl (x:=.ref T) rfl (av (wpAny_seqItems hT rfl ?_)))))
 show wpAny _ _ (Builtin.SmallTypes.ownedTupleIsFree (.ref z)>>=_) _ _ _
 refine av ?_
 unfold Builtin.SmallTypes.ownedTupleIsFree
 refine av (wpAny_field hz rfl (x:=.none) rfl (aw ?_))
 simp only[if_true]
 refine av (wpAny_rule (av (wpAny_field hz rfl (x:=.ref O) rfl (av (wpAny_setField_rec hz (by simp) λ g1 hz1 e1=>?_)))))
 replace hz1:IsZip g1 z T O .ellipsis:=hz1
 refine av ?_
 simp only[List.zipIdx_nil,List.zipIdx_cons,List.forIn_nil,List.forIn_cons]
 have z1:∀ {c o},c≠z->s.heap.get? c=some o->g1.get? c=some o:=λ hc e=>e1.extBut _ _ hc e
 have mem:∀ {c y:Addr} {l:List Addr},y∉l->c∈l->c≠y:=λ hn hm e=>hn (e▸hm)
 refine av (av (wpAny_onRaise (show wpAny _ _ (Builtin.SmallTypes.nextOf (.ref i)>>=_) _ _ _ from av (C.item k _ _ _ hn (C.frame k _ _ h1 λ c hc o e=>z1 (mem ap.zf hc) e) λ x g2 tk2 px s2 e2=>aw ?_))))
 have hO2:IsPair g2 O a b:=e2.extBut _ _ ap.Oi (z1 ap.Oz hO)
 refine av (wpAny_seqItems hO2 rfl (av (wpAny_updateSeq_pair hO2 λ g3 hO3 e3=>?_)))
 replace hO3:IsPair g3 O x b:=hO3
 refine av (wpAny_letGo (aw (av (av (wpAny_onRaise ?_)))))
 show wpAny _ _ (Builtin.SmallTypes.nextOf (.ref j)>>=_) _ _ _
 refine av (D.item k _ _ _ hm (D.frame k _ _ h2 λ c hc o e=>e3.extBut _ _ (mem ap.Og hc) (e2.extBut _ _ (mem ap.ig hc) (z1 (mem ap.zg hc) e))) λ y g4 tk4 py s4 e4=>aw ?_)
 have hO4:IsPair g4 O x b:=e4.extBut _ _ ap.Oj hO3
 refine av (wpAny_seqItems hO4 rfl (av (wpAny_updateSeq_pair hO4 λ g5 hO5 e5=>?_)))
 replace hO5:IsPair g5 O x y:=hO5
 refine av (wpAny_letGo (aw (aw (av (wpAny_seqItems hO5 rfl (av (wpAny_newTuple ?_)))))))
 have size5:g5.objs.size=s.heap.objs.size:=by rw[e5.1,e4.1,e3.1,e2.1,e1.1]
 have hz5:IsZip g5 z T O .ellipsis:=e5.extBut _ _ ap.Oz.symm (e4.extBut _ _ ap.jz.symm (e3.extBut _ _ ap.Oz.symm (e2.extBut _ _ ap.iz.symm hz1)))
 have k5:∀ c o,c≠z->c≠O->c≠i->c≠j->s.heap.get? c=some o->g5.get? c=some o:=λ c o q1 q2 q3 q4 e=>e5.extBut _ _ q2 (e4.extBut _ _ q4 (e3.extBut _ _ q2 (e2.extBut _ _ q3 (z1 q1 e))))
 have s5:S (k+1) g5:=C.frame _ _ _ s2 λ c hc o e=>e5.extBut _ _ (mem ap.Of hc) (e4.extBut _ _ (mem ap.jf hc) (e3.extBut _ _ (mem ap.Of hc) e))
 have u5:U (k+1) g5:=D.frame _ _ _ s4 λ c hc o e=>e5.extBut _ _ (mem ap.Og hc) e
 have zlt:z<g5.objs.size:=au hz5
 show wpAny _ _ (Builtin.SmallTypes.ownedTupleHandOut (.ref z) (.ref g5.objs.size)>>=_) _ _ _
 refine av ?_
 unfold Builtin.SmallTypes.ownedTupleHandOut
 have hz6:IsZip (g5.push {cls:=.type "tuple",data:=.seq #[x,y]}) z T O .ellipsis:=aC _ hz5
 refine av (wpAny_setField_rec hz6 (by simp) λ g7 hz7 e7=>?_)
 replace hz7:IsZip g7 z T O (rawInt g5.objs.size):=hz7
 refine wpAny_setField_rec hz7 (by simp) λ g8 hz8 e8=>aw ⟨_,rfl,?_⟩
 have up:∀ c o,c≠z->g5.get? c=some o->g8.get? c=some o:=λ c o q e=>e8.extBut _ _ q (e7.extBut _ _ q (aC _ e))
 exact fin g8 g5.objs.size _ x y px py (Nat.le_of_eq size5.symm) hz8 (up _ _ ap.Oz hO5) (C.frame _ _ _ s5 λ c hc o e=>up _ _ (mem ap.zf hc) e) (D.frame _ _ _ u5 λ c hc o e=>up _ _ (mem ap.zg hc) e)
  (e8.extBut _ _ (Nat.ne_of_gt zlt) (e7.extBut _ _ (Nat.ne_of_gt zlt) (aG _ rfl))) λ c o q1 q2 q3 q4 e=>up c o q1 (k5 c o q1 q2 q3 q4 e)
theorem zEnd (ap:Ap z T O i j f g)(C:Draws prog w A i f n P S)(D:Draws prog w A j g m R U){k:Nat}{a b:Value}{Q:Fin->Shared->Prop}(hk:k=n\/(k<n/\k=m))
  (hz:IsZip s.heap z T O .none) (hT:IsPair s.heap T (.ref i) (.ref j)) (hO:IsPair s.heap O a b) (h1:S k s.heap) (h2:U k s.heap)
  (fin:∀ h' e tk,(∀ c o,c≠z->c≠O->c≠i->c≠j->s.heap.get? c=some o->h'.get? c=some o)->(∃ o,h'.get? e=some o/\o.cls=.type "StopIteration")->E (.ref e) {s with heap:=h',toks:=tk}) :
  wpAny (model prog w) A (Builtin.«zip.__next__» ⟨[.ref z],[]⟩) Q E s:=by
 show wpAny _ _ (field (.ref z) 2>>=_) _ _ _
 refine av (wpAny_field hz rfl (x:=.bool false) rfl (show wpAny _ _ (field (.ref z) 3>>=_) _ _ _ from av (wpAny_field hz rfl (x:=.ref T) rfl (av (wpAny_seqItems hT rfl ?_)))))
 show wpAny _ _ (Builtin.SmallTypes.ownedTupleIsFree (.ref z)>>=_) _ _ _
 refine av ?_
 unfold Builtin.SmallTypes.ownedTupleIsFree
 refine av (wpAny_field hz rfl (x:=.none) rfl (aw ?_))
 simp only[if_true]
 refine av (wpAny_rule (av (wpAny_field hz rfl (x:=.ref O) rfl (av (wpAny_setField_rec hz (by simp) λ g1 hz1 e1=>?_)))))
 replace hz1:IsZip g1 z T O .ellipsis:=hz1
 refine av ?_
 simp only[List.zipIdx_nil,List.zipIdx_cons,List.forIn_nil,List.forIn_cons]
 have z1:∀ {c o},c≠z->s.heap.get? c=some o->g1.get? c=some o:=λ hc e=>e1.extBut _ _ hc e
 have mem:∀ {c y:Addr} {l:List Addr},y∉l->c∈l->c≠y:=λ hn hm e=>hn (e▸hm)
 have st1:S k g1:=C.frame k _ _ h1 λ c hc o e=>z1 (mem ap.zf hc) e
 refine av (av (wpAny_onRaise ?_))
 show wpAny _ _ (Builtin.SmallTypes.nextOf (.ref i)>>=_) _ _ _
 rcases hk with rfl | ⟨hn,rfl⟩
 ·refine av (C.done _ _ _ st1 λ g2 e x2 ⟨oe,he,ce⟩=>?_)
  have hz2:IsZip g2 z T O .ellipsis:=x2 _ _ ap.iz.symm hz1
  have ez:e≠z:=λ q=>by subst q;rw[hz2]at he;cases he;simp at ce
  exact wpAny_setField_rec hz2 (by simp) λ g3 _ e3=>fin g3 e _ (λ c o q1 _ q3 _ x=>e3.extBut _ _ q1 (x2 _ _ q3 (z1 q1 x))) ⟨oe,e3.extBut _ _ ez he,ce⟩
 ·refine av (C.item k _ _ _ hn st1 λ x g2 tk2 px s2 e2=>aw ?_)
  have hO2:IsPair g2 O a b:=e2.extBut _ _ ap.Oi (z1 ap.Oz hO)
  refine av (wpAny_seqItems hO2 rfl (av (wpAny_updateSeq_pair hO2 λ g3 hO3 e3=>av (wpAny_letGo (aw (av (av (wpAny_onRaise ?_))))))))
  show wpAny _ _ (Builtin.SmallTypes.nextOf (.ref j)>>=_) _ _ _
  refine av (D.done _ _ _ (D.frame k _ _ h2 λ c hc o e=>e3.extBut _ _ (mem ap.Og hc) (e2.extBut _ _ (mem ap.ig hc) (z1 (mem ap.zg hc) e))) λ g4 e x4 ⟨oe,he,ce⟩=>?_)
  have hz4:IsZip g4 z T O .ellipsis:=x4 _ _ ap.jz.symm (e3.extBut _ _ ap.Oz.symm (e2.extBut _ _ ap.iz.symm hz1))
  have ez:e≠z:=λ q=>by subst q;rw[hz4]at he;cases he;simp at ce
  exact wpAny_setField_rec hz4 (by simp) λ g5 _ e5=>fin g5 e _ (λ c o q1 q2 q3 q4 x=>e5.extBut _ _ q1 (x4 _ _ q4 (e3.extBut _ _ q2 (e2.extBut _ _ q3 (z1 q1 x))))) ⟨oe,e5.extBut _ _ ez he,ce⟩
theorem K0 (ap:Ap z T O i j f g)(C:Draws prog w A.in1 i f n P S)(D:Draws prog w A.in1 j g m R U){k:Nat}{a b:Value}{Q:Option Value->Shared->Prop}(hn:k<n)(hm:k<m)
  (hz:IsZip s.heap z T O .none) (hT:IsPair s.heap T (.ref i) (.ref j)) (hO:IsPair s.heap O a b) (h1:S k s.heap) (h2:U k s.heap)
  (fin:∀ h' N tk x y,P k x->R k y->s.heap.objs.size<=N->IsZip h' z T O (rawInt N)->IsPair h' O x y->S (k+1) h'->U (k+1) h'->IsPair h' N x y ->
   (∀ c o,c≠z->c≠O->c≠i->c≠j->s.heap.get? c=some o->h'.get? c=some o)->Q (some (.ref N)) {s with heap:=h',toks:=tk}) :
  wpAny (model prog w) A (pyNext (.ref z)) Q E s:=by
 have ty:s.TypeIs (.ref z) "zip":=⟨_,hz,rfl⟩
 unfold pyNext
 exact av (wpAny_attempt (wpAny_callSpecial?_slot (name:=Str.ofString "__next__") ty F.slot_zip_next (wpAny_call_entry F.slot_zip_next ty F.entry_zip_next
  (KZ ap C D hn hm hz hT hO h1 h2 λ h' N tk x y q1 q2 q3 q4 q5 q6 q7 q8 q9=>aw (fin h' N tk x y q1 q2 q3 q4 q5 q6 q7 q8 q9)) (F.args_zip_next_1 _))))
theorem K1 (ap:Ap z T O i j f g)(C:Draws prog w A.in1 i f n P S)(D:Draws prog w A.in1 j g m R U){k:Nat}{a b:Value}{Q:Option Value->Shared->Prop}(hk:k=n\/(k<n/\k=m))
  (hz:IsZip s.heap z T O .none) (hT:IsPair s.heap T (.ref i) (.ref j)) (hO:IsPair s.heap O a b) (h1:S k s.heap) (h2:U k s.heap)
  (fin:∀ h' tk,(∀ c o,c≠z->c≠O->c≠i->c≠j->s.heap.get? c=some o->h'.get? c=some o)->Q none {s with heap:=h',toks:=tk}) :
  wpAny (model prog w) A (pyNext (.ref z)) Q E s:=by
 have ty:s.TypeIs (.ref z) "zip":=⟨_,hz,rfl⟩
 unfold pyNext
 refine av (wpAny_attempt (wpAny_callSpecial?_slot (name:=Str.ofString "__next__") ty F.slot_zip_next (wpAny_call_entry F.slot_zip_next ty F.entry_zip_next
  (zEnd ap C D hk hz hT hO h1 h2 λ h' e tk q1 ⟨o,q2,q3⟩=>?_) (F.args_zip_next_1 _))))
 exact av (wpAny_isInstance (T:="StopIteration") (b:=true) ⟨o,q2,q3⟩ isSubtype_stop (aw (fin _ _ q1)))
end
end Zp
namespace Zp
open PySem PySem.Spec PyProof.Rows L2
noncomputable def g_ (t:Bool)(a:Addr):Obj:=match t with
 | true=>{cls:=.type "tuple_iterator",data:=.fields #[.ref a,.int 0 0]}
 | false=>{cls:=.type "list_iterator",data:=.fields #[.ref a,.int 0 0]}
noncomputable def IsB (t:Bool)(h:Heap)(a:Addr)(arr:Array Value):Prop:=match t with
 | true=>h.IsTuple a arr
 | false=>h.IsList a arr
noncomputable def ItB (t:Bool)(h:Heap)(j a:Addr)(k:Nat):Prop:=match t with
 | true=>h.IsTupleIter j a k
 | false=>h.IsListIter j a k
noncomputable def SqB (t:Bool)(K:PySem.W.Frag)(H:Hp)(a:Addr)(xs:List V):Prop:=match t with
 | true=>SqT K H a xs
 | false=>SqL K H a xs
section
variable {prog:Program}{w:World}{A:Around}{E:Value->Shared->Prop}{s:Shared}
theorem mz {t:Bool}{a:Addr}{arr:Array Value}{Q:Value->Shared->Prop}(h:IsB t s.heap a arr)(q:Q (.ref s.heap.objs.size) {s with heap:=s.heap.push (g_ t a)}):wpAny (model prog w) A (pyIter (.ref a)) Q E s:=by
 cases t with
 | true=>exact wpAny_pyIter_tuple h q
 | false=>exact wpAny_pyIter_list h q
theorem IsB.push {t:Bool}{h:Heap}{a:Addr}{arr:Array Value}(x:IsB t h a arr)(o:Obj):IsB t (h.push o) a arr:=by
 cases t with
 | true=>exact Heap.IsTuple.push x o
 | false=>exact Heap.IsList.push x o
theorem ItB.keep {t:Bool}{h h':Heap}{j a:Addr}{k:Nat}(x:ItB t h j a k)(e:∀ o,h.get? j=some o->h'.get? j=some o):ItB t h' j a k:=by
 cases t with
 | true=>obtain⟨o,ho,r⟩:=x;exact⟨o,e o ho,r⟩
 | false=>obtain⟨o,ho,r⟩:=x;exact⟨o,e o ho,r⟩
theorem ItB.obj {t:Bool}{h:Heap}{j a:Addr}{k:Nat}(x:ItB t h j a k):∃ o,h.get? j=some o/\∀ v,o.data≠.cell v:=by
 cases t with
 | true=>obtain⟨o,ho,c,d⟩:=x;exact⟨o,ho,λ v z=>by rw[d]at z;cases z⟩
 | false=>obtain⟨o,ho,c,d⟩:=x;exact⟨o,ho,λ v z=>by rw[d]at z;cases z⟩
theorem pd {t:Bool}(hh:A.handled=none)(j a:Addr)(ne:a≠j)(arr:Array Value):Draws prog w A j [j,a] arr.size (λ i v=>arr[i]?=some v) (λ i h=>ItB t h j a i/\IsB t h a arr):=by
 cases t with
 | true=>exact D3 hh j a ne arr
 | false=>exact Draws.list hh j a ne arr
noncomputable def lh (t1 t2:Bool)(l1 l2:Addr)(h:Heap):Heap :=
 ((((h.push (g_ t1 l1)).push (g_ t2 l2)).push ⟨.type "tuple",none,.seq #[.ref h.objs.size,.ref (h.objs.size+1)] 0,#[]⟩).push ⟨.type "tuple",none,.seq #[.none,.none] 0,#[]⟩).push ⟨.type "zip",none,.fields #[.none,.bool false,.bool false,.ref (h.objs.size+2),.ref (h.objs.size+3)],#[]⟩
theorem Je (t1 t2:Bool)(l1 l2:Addr)(xs ys:Array Value) :
  Meets (Builtin.«zip.__new__» ⟨[.type "zip",.ref l1,.ref l2],[]⟩) (λ _ R s=>IsB t1 s.heap l1 xs/\IsB t2 s.heap l2 ys/\R (.ok (.ret (.ref (s.heap.objs.size+4)))) {s with heap:=lh t1 t2 l1 l2 s.heap}) :=
 .of_wp λ prog w A R s h=>by
  obtain⟨hp,g,d,tk,os⟩:=s
  obtain⟨hl1,hl2,h⟩:=h
  have hsub:=sub_zip
  have hL1:IsB t1 (Shared.heap ⟨hp,g,d,tk,os⟩) l1 xs:=hl1
  have hL2:IsB t2 (Shared.heap ⟨hp.push (g_ t1 l1),g,d,tk,os⟩) l2 ys:=IsB.push hl2 _
  wp_walk using mz hL1,mz hL2
  refine⟨_,rfl,?_⟩
  unfold lh at h
  simp only[Heap.size_push]at h ⊢
  exact h
end
end Zp
namespace L2
open PySem PySem.Spec PyProof.Rows Zp
section
variable {X:Cx}{pins:List (Addr×Obj)}{σ:St}{H:Hp}{s:Shared}{h':Heap}
theorem Inv.lQ {t':Nat}{fp:List Addr}(I:Inv X pins σ H s)(k:∀ b o,b∉fp->s.heap.get? b=some o->h'.get? b=some o)(hf:∀ b∈fp,oO X pins H b):Inv X pins σ H {s with heap:=h',toks:=t'}:=by
 have nit:∀ b u,H b=some u->b∉fp:=λ b u e z=>by rw[(hf b z).1]at e;cases e
 refine I.step (g':=s.gens) (d':=s.drawn) (ch:=fp) (λ b hb=>⟨(hf b hb).2.2.2.1,(hf b hb).2.1,(hf b hb).2.2.2.2.1,(hf b hb).2.2.2.2.2⟩) (λ b o _ _ hc e _=>k b o hc e) (λ b o _ _ hc e _=>⟨o.slots,k b o hc e⟩) (λ _ _ _ _ n=>n)
  (λ b o hc e=>⟨o,k b o hc e⟩) (λ _ _ e=>e) (λ _ _ _ e=>e) (λ b ps e=>⟨#[],by rw[e];simp⟩) (λ m hm=>?_) (λ b u e=>?_) I.bare
 ·obtain⟨o,es,ep,ho,r⟩:=hm
  exact⟨o,es,ep,k _ o (λ z=>(hf _ z).2.1 rfl) ho,r⟩
 ·refine(I.hok b u e).tQ (λ c v hc q=>k c v ?_ q) (λ _ q=>q) λ _ _ q=>q
  rcases hc with z | z
  ·rw[z];exact nit b u e
  ·exact nit c _ z
theorem Inv.jX {t:Bool}{a:Addr}{xs:List V}(I:Inv X pins σ H s)(h:SqB t X.K H a xs):∃ its:List Value,Vals xs its/\IsB t s.heap a its.toArray/\xs.length<=sizeLine:=by
 cases t with
 | true=>obtain⟨its,r,p,z⟩:=I.tuple h;exact⟨its,r,p,z⟩
 | false=>obtain⟨its,r,p,z⟩:=I.list h;exact⟨its,r,p.isList,z⟩
theorem Inv.sq {t:Bool}{a:Addr}{xs ys:List V}(I:Inv X pins σ H s)(h:SqB t X.K H a xs)(h':SqB t X.K H a ys):xs=ys:=by
 cases t with
 | true=>exact I.oM h h'
 | false=>exact I.w_ h h'
theorem ItB.cls {t:Bool}{h:Heap}{j a:Addr}{k:Nat}(x:ItB t h j a k):∃ o,h.get? j=some o/\o.cls≠.type "tuple"/\o.cls≠.type "list":=by
 cases t with
 | true=>obtain⟨o,ho,c,d⟩:=x;exact⟨o,ho,by rw[c];decide,by rw[c];decide⟩
 | false=>obtain⟨o,ho,c,d⟩:=x;exact⟨o,ho,by rw[c];decide,by rw[c];decide⟩
noncomputable def Itz (t1 t2:Bool)(K:PySem.W.Frag)(a b:Addr):It :=
  ⟨λ i H=>∃ xs ys,SqB t1 K H a xs/\SqB t2 K H b ys/\i<xs.length/\i<ys.length,
   λ i H v H'=>∃ p x y,v=.ref p/\H p=none/\H'=upd H p (.tup [x,y])/\(∀ xs,SqB t1 K H a xs->xs[i]?=some x)/\(∀ ys,SqB t2 K H b ys->ys[i]?=some y),
   λ i H=>∃ xs ys,SqB t1 K H a xs/\SqB t2 K H b ys/\(i=xs.length\/(i<xs.length/\i=ys.length))⟩
noncomputable def tnz (t1 t2:Bool)(a b z T O i j:Addr)(k:Nat)(h:Heap):Prop:=IsZip h z T O .none/\IsPair h T (.ref i) (.ref j)/\(∃ x y,IsPair h O x y)/\ItB t1 h i a k/\ItB t2 h j b k
theorem K2 (z T O i j:Addr):z∈[z,T,O,i,j]/\T∈[z,T,O,i,j]/\O∈[z,T,O,i,j]/\i∈[z,T,O,i,j]/\j∈[z,T,O,i,j]:=by simp
theorem HF {z T O i j a b:Addr}(Tz:T≠z)(Oz:O≠z)(TO:T≠O)(iz:i≠z)(jz:j≠z)(Ti:T≠i)(Tj:T≠j)(Oi:O≠i)(Oj:O≠j)(ij:i≠j)(az:a≠z)(bz:b≠z)(aO:a≠O)(bO:b≠O)(aj:a≠j)(bi:b≠i):Ap z T O i j [i,a] [j,b] :=
 ⟨Tz,Oz,TO,iz,jz,Ti,Tj,Oi,Oj,ij,by simp[Ne.symm iz,Ne.symm az],by simp[Ne.symm jz,Ne.symm bz],by simp[Oi,Ne.symm aO],by simp[Oj,Ne.symm bO],by simp[Ne.symm ij,Ne.symm aj],by simp[ij,Ne.symm bi]⟩
theorem ph {X:Cx}{pins:List (Addr×Obj)}{σ:St}{H:Hp}{s:Shared}{fp:List Addr}(I:Inv X pins σ H s)(hf:∀ q∈fp,oO X pins H q){t:Bool}{c:Addr}{zs:List V}(hs:SqB t X.K H c zs)(q:Addr)(hq:q∈fp):c≠q:=by
 intro e
 have hn:=(hf q hq).1
 have hnk:X.K.lookup q=none:=by
  cases hkq:X.K.lookup q with
  | none=>rfl
  | some oo =>
   have hb:=I.ok.mod.kin q oo hkq
   exfalso
   rcases (hf q hq).2.2.2.1 with hx | hx
   ·exact I.ok.BR q oo hb hx
   ·exact Nat.lt_irrefl _ (aB (au hb) (Nat.le_trans I.ok.bsz hx))
 rw[e]at hs
 cases t with
 | true =>
  rcases hs with (r | ⟨_,r⟩) | ⟨oo,_,_,r,_⟩
  ·rw[hn]at r;cases r
  ·rw[hn]at r;cases r
  ·rw[hnk]at r;cases r
 | false =>
  rcases hs with (r | ⟨_,r⟩) | ⟨oo,_,_,r,_⟩
  ·rw[hn]at r;cases r
  ·rw[hn]at r;cases r
  ·rw[hnk]at r;cases r
theorem D4 {P:Program}{w:World}{K:PySem.W.Frag}{elts:List Expr}{kk:Nat}{ps:Pos}(t1 t2:Bool)(a b z T O i j:Addr)(Tz:T≠z)(Oz:O≠z)(TO:T≠O)(iz:i≠z)(jz:j≠z)(Ti:T≠i)(Tj:T≠j)(Oi:O≠i)(Oj:O≠j)(ij:i≠j) :
  Turn P w K (.Tuple elts kk ps) (Itz t1 t2 K a b) [z,T,O,i,j] z (tnz t1 t2 a b z T O i j) where
 mem:=by simp
 obj:=λ k h st c hc=>by
  obtain⟨hz,hT,⟨x,y,hO⟩,h1,h2⟩:=st
  simp only[ar,List.not_mem_nil,or_false]at hc
  rcases hc with rfl | rfl | rfl | rfl | rfl
  ·exact⟨_,hz,λ v q=>by cases q⟩
  ·exact⟨_,hT,λ v q=>by cases q⟩
  ·exact⟨_,hO,λ v q=>by cases q⟩
  ·exact h1.obj
  ·exact h2.obj
 keep:=λ k h h' st kp=>by
  obtain⟨hz,hT,⟨x,y,hO⟩,h1,h2⟩:=st
  exact⟨kp z (by simp) _ hz,kp T (by simp) _ hT,⟨x,y,kp O (by simp) _ hO⟩,h1.keep λ o e=>kp i (by simp) o e,h2.keep λ o e=>kp j (by simp) o e⟩
 item:=by
  intro X hP hw hK hc k pins s σ H E I hf st hg
  subst hP hw hK
  obtain⟨xs,ys,hq1,hq2,hk1,hk2⟩:=hg
  obtain⟨hz,hT,⟨x0,y0,hO⟩,h1,h2⟩:=st
  obtain⟨its1,rv1,p1,_⟩:=I.jX hq1
  obtain⟨its2,rv2,p2,_⟩:=I.jX hq2
  obtain⟨oi,gi,ci,ci'⟩:=ItB.cls (t:=t1) (h:=s.heap) (j:=i) (a:=a) (k:=k) h1
  obtain⟨oj,gj,cj,cj'⟩:=ItB.cls (t:=t2) (h:=s.heap) (j:=j) (a:=b) (k:=k) h2
  have hl1:=rv1.length
  have hl2:=rv2.length
  have m5:=K2 z T O i j
  have na:=ph I hf hq1
  have nb:=ph I hf hq2
  have ap:=HF Tz Oz TO iz jz Ti Tj Oi Oj ij (na _ m5.1) (nb _ m5.1) (na _ m5.2.2.1) (nb _ m5.2.2.1) (na _ m5.2.2.2.2) (nb _ m5.2.2.2.1)
  refine K0 ap (pd (prog:=X.prog) (w:=X.w) (A:=X.A.in1) (t:=t1) (show X.A.in1.handled=none from I.ok.hd hc) i a (na i m5.2.2.2.1) its1.toArray) (pd (prog:=X.prog) (w:=X.w) (A:=X.A.in1) (t:=t2) (show X.A.in1.handled=none from I.ok.hd hc) j b (nb j m5.2.2.2.2) its2.toArray) (by simp;omega) (by simp;omega) hz hT hO ⟨h1,p1⟩ ⟨h2,p2⟩ ?_
  intro h' N tk x y px py hN hz' hO' s1 s2 hNp kp
  refine⟨.ref N,rfl,?_⟩
  have I1:Inv X pins σ H {s with heap:=h',toks:=tk}:=I.lQ (fp:=[z,T,O,i,j]) (λ c o hc' e=>kp c o (λ q=>hc' (q▸m5.1)) (λ q=>hc' (q▸m5.2.2.1)) (λ q=>hc' (q▸m5.2.2.2.1)) (λ q=>hc' (q▸m5.2.2.2.2)) e) hf
  have hxk:xs[k]?=some (xs[k]'hk1):=by simp[hk1]
  have hyk:ys[k]?=some (ys[k]'hk2):=by simp[hk2]
  obtain⟨u1,e1,r1⟩:=rv1.get hxk
  obtain⟨u2,e2,r2⟩:=rv2.get hyk
  have px':its1[k]?=some x:=by simpa using px
  have py':its2[k]?=some y:=by simpa using py
  rw[e1]at px';cases px'
  rw[e2]at py';cases py'
  have hNn:H N=none:=I.hok.fresh hN
  have I2:Inv X pins σ (upd H N (.tup [xs[k],ys[k]])) {s with heap:=h',toks:=tk}:=I1.xA hNn (Nat.le_trans I.sz hN) (Nat.ne_of_gt (aB I.lt hN)) (λ x c e q=>by
    obtain⟨v,o,ho,_⟩:=I.cell x c e
    exact absurd (au ho) (by rw[q];exact Nat.not_lt.mpr hN)) (λ p hp q=>absurd (au (I.pin p hp).1) (by rw[q];exact Nat.not_lt.mpr hN))
   ⟨by rw[sizeLine_eq];simp,[x,y],.cons r1 (.cons r2 .nil),⟨_,hNp,rfl,0,rfl⟩⟩
  have nfp:∀ q∈[z,T,O,i,j],q≠N:=λ q hq e=>by
   have:q<s.heap.objs.size:=by
    simp only[ar,List.not_mem_nil,or_false]at hq
    rcases hq with rfl | rfl | rfl | rfl | rfl
    ·exact au hz
    ·exact au hT
    ·exact au hO
    ·exact au gi
    ·exact au gj
   rw[e]at this
   exact Nat.lt_irrefl _ (aB this hN)
  have hf2:∀ q∈[z,T,O,i,j],oO X pins (upd H N (.tup [xs[k],ys[k]])) q:=λ q hq=>⟨by rw[aV (nfp q hq)];exact(hf q hq).1,(hf q hq).2⟩
  refine wpAny_letOwnedTupleGo_zip hz' λ h2' hz2 sb=>?_
  refine⟨.ref N,_,I2.lQ (t':=tk) (fp:=[z,T,O,i,j]) (λ c o hc' e=>sb.extBut _ _ (λ q=>hc' (by simp[q])) e) hf2,rfl,⟨N,_,_,rfl,hNn,rfl,λ zs hs=>?_,λ zs hs=>?_⟩,⟨hz2,sb.extBut _ _ Tz (kp T _ Tz TO Ti Tj hT),⟨_,_,sb.extBut _ _ Oz hO'⟩,s1.1.keep λ o e=>sb.extBut _ _ iz e,s2.1.keep λ o e=>sb.extBut _ _ jz e⟩,λ q hq=>(hf2 q hq).1⟩
  ·rw[I.sq hs hq1];exact hxk
  ·rw[I.sq hs hq2];exact hyk
 done:=by
  intro X hP hw hK hc k pins s σ H E I hf st hg
  subst hP hw hK
  obtain⟨xs,ys,hq1,hq2,hk⟩:=hg
  obtain⟨hz,hT,⟨x0,y0,hO⟩,h1,h2⟩:=st
  obtain⟨its1,rv1,p1,_⟩:=I.jX hq1
  obtain⟨its2,rv2,p2,_⟩:=I.jX hq2
  have hl1:=rv1.length
  have hl2:=rv2.length
  have m5:=K2 z T O i j
  have na:=ph I hf hq1
  have nb:=ph I hf hq2
  have ap:=HF Tz Oz TO iz jz Ti Tj Oi Oj ij (na _ m5.1) (nb _ m5.1) (na _ m5.2.2.1) (nb _ m5.2.2.1) (na _ m5.2.2.2.2) (nb _ m5.2.2.2.1)
  refine K1 ap (pd (prog:=X.prog) (w:=X.w) (A:=X.A.in1) (t:=t1) (show X.A.in1.handled=none from I.ok.hd hc) i a (na i m5.2.2.2.1) its1.toArray) (pd (prog:=X.prog) (w:=X.w) (A:=X.A.in1) (t:=t2) (show X.A.in1.handled=none from I.ok.hd hc) j b (nb j m5.2.2.2.2) its2.toArray) (k:=k) (by simp;omega) hz hT hO ⟨h1,p1⟩ ⟨h2,p2⟩ ?_
  intro h' tk kp
  exact⟨rfl,I.lQ (fp:=[z,T,O,i,j]) (λ c o hc' e=>kp c o (λ q=>hc' (q▸m5.1)) (λ q=>hc' (q▸m5.2.2.1)) (λ q=>hc' (q▸m5.2.2.2.1)) (λ q=>hc' (q▸m5.2.2.2.2)) e) hf⟩
 self:=λ _ _ _ _ _ st h=>wpAny_pyIter_zip st.1 h
end
noncomputable def K3 (K:PySem.W.Frag)(J:It)(H:Hp)(ds:List Dt):Prop:=∀ H',a_ H H'->(∀ (i:Nat) d,ds[i]?=some d->J.go i H'/\∀ x H'',J.yld i H' x H''->a_ H' H''/\Is K H'' x d)/\J.stop ds.length H'
noncomputable def iD (K:PySem.W.Frag)(g:DE->Option (List Dt)):TI:=λ σ H R=>∃ δ ds,Sat K H σ δ/\g δ=some ds/\∀ J H',a_ H H'->K3 K J H' ds->R J H'
section
variable {X:Cx}{e a b c:Expr}{es:List Expr}{pos:Pos}{tg iter:Expr}
theorem PI.of {t t':TI}(h:PI X tg iter t)(w:∀ σ H Q,t' σ H Q->t σ H Q):PI X tg iter t':=λ pins s σ H Q I q=>h pins s σ H Q I (w σ H Q q)
noncomputable def nE:Dt->Option (List Dt)
 | .tup ds=>some ds
 | _=>none
noncomputable def A3:Dt->Option (List Dt)
 | .lst ds=>some ds
 | _=>none
theorem pj {d:Dt}{ds:List Dt}(h:nE d=some ds):d=.tup ds:=by cases d<;>simp[nE]at h;rw[h]
theorem uO {d:Dt}{ds:List Dt}(h:A3 d=some ds):d=.lst ds:=by cases d<;>simp[A3]at h;rw[h]
noncomputable def gI (f:Dt->Option (List Dt))(g:DE->Option Dt):DE->Option (List Dt):=λ δ=>(g δ).bind f
theorem Jf {g:DE->Option Dt}(h:PD X e g):PI X tg e (iD X.K (gI nE g)):=(De h).of λ σ H R hz1=>by
 obtain⟨δ,ds,S,q,k⟩:=hz1
 obtain⟨x,e1,e2⟩:=aQ q
 have e2:=pj e2
 subst e2
 refine⟨δ,_,S,e1,λ v H1 s1 i1=>?_⟩
 obtain⟨a,xs,rfl,hq,is⟩:=i1.bX
 refine⟨a,rfl,⟨xs,hq⟩,k _ H1 s1 λ H2 s2=>⟨λ i d hd=>?_,⟨xs,s2.nC hq,by rw[is.length];exact ag _⟩⟩⟩
 obtain⟨v,hv,iv⟩:=is.get hd
 exact⟨⟨xs,v,s2.nC hq,hv⟩,λ x H3 hz2=>by
  obtain⟨e3,y⟩:=hz2
  subst e3
  have:=y xs (s2.nC hq)
  rw[hv]at this
  cases this
  exact⟨a_.refl _,iv.ext s2⟩⟩
theorem Jg {g:DE->Option Dt}(h:PD X e g):PI X tg e (iD X.K (gI A3 g)):=(ve h).of λ σ H R hz3=>by
 obtain⟨δ,ds,S,q,k⟩:=hz3
 obtain⟨x,e1,e2⟩:=aQ q
 have e2:=uO e2
 subst e2
 refine⟨δ,_,S,e1,λ v H1 s1 i1=>?_⟩
 obtain⟨a,xs,rfl,hq,is⟩:=i1.lst_inv
 refine⟨a,rfl,⟨xs,SqL.of hq⟩,k _ H1 s1 λ H2 s2=>⟨λ i d hd=>?_,⟨xs,s2.seq (SqL.of hq),by rw[is.length];exact ag _⟩⟩⟩
 obtain⟨v,hv,iv⟩:=is.get hd
 exact⟨⟨xs,v,s2.seq (SqL.of hq),hv⟩,λ x H3 hz4=>by
  obtain⟨e3,y⟩:=hz4
  subst e3
  have:=y xs (s2.seq (SqL.of hq))
  rw[hv]at this
  cases this
  exact⟨a_.refl _,iv.ext s2⟩⟩
noncomputable def pz:List Dt->Option (List Dt)
 | [.int j]=>if j<=1000000/\-1000000<=j then some ((List.range j.toNat).map λ(i:Nat)=>.int i) else none
 | _=>none
noncomputable def K4:List Dt->Option (List Dt)
 | [.int i,.int j]=>if (-1000000<=i/\i<=1000000)/\j<=1000000/\-1000000<=j then some ((List.range (j-i).toNat).map λ(k:Nat)=>.int (i+k)) else none
 | _=>none
theorem D5 {x ds:List Dt}(e:pz x=some ds):∃ j:Int,x=[.int j]/\(j<=1000000/\-1000000<=j)/\ds=(List.range j.toNat).map λ(i:Nat)=>Dt.int i:=by
 cases x with
 | nil=>cases e
 | cons y r=>cases r with
  | cons _ _=>cases y<;>cases e
  | nil=>cases y with
   | int j =>
    have e:(if j<=1000000/\-1000000<=j then some ((List.range j.toNat).map λ(i:Nat)=>Dt.int i) else none)=some ds:=e
    by_cases hj:j<=1000000/\-1000000<=j
    ·rw[ae hj]at e;exact⟨j,rfl,hj,(ao e).symm⟩
    ·rw[af hj]at e;cases e
   | _=>cases e
theorem Jh {K:PySem.W.Frag}{H:Hp}(lo:Int)(n:Nat):K3 K (Itr lo n) H ((List.range n).map λ(k:Nat)=>.int (lo+k)):=λ H1 s1=>by
 refine⟨λ i d hd=>?_,by show n<=_;simp⟩
 rw[List.getElem?_map]at hd
 by_cases hi:i<n
 ·rw[List.getElem?_range hi]at hd
  cases hd
  exact⟨hi,λ x H2 ⟨e1,e2⟩=>by subst e1;subst e2;exact⟨a_.refl _,.int _⟩⟩
 ·rw[List.getElem?_eq_none (by simpa using hi)]at hd
  cases hd
theorem Ce {gs:DE->Option (List Dt)}{p:Pos}(hm:X.mg "range"=none)(ha:PDs X [a] gs)(hg:Gl X "range":=by rfl)(hs:starEach [a] X.env=[(false,eval a X.env)]:=by rfl):PI X tg (.Call (.Name "range" p) [a] [] pos) (iD X.K (λ δ=>(gs δ).bind pz)) :=
 (jF hg hm ha hs).of λ σ H R hz5=>by
  obtain⟨δ,ds,S,q,k⟩:=hz5
  obtain⟨x,e1,e2⟩:=aQ q
  obtain⟨j,rfl,hj,rfl⟩:=D5 e2
  refine⟨δ,_,S,e1,λ vs H1 s1 i1=>?_⟩
  cases i1 with
  | cons i1 i2 =>
   cases i2
   cases i1
   refine⟨j,rfl,by omega,by omega,k _ H1 s1 ?_⟩
   have:=Jh (K:=X.K) (H:=H1) 0 j.toNat
   simpa using this
noncomputable def itB (t:Bool):Dt->Option (List Dt):=match t with
 | true=>nE
 | false=>A3
theorem vD {K:PySem.W.Frag}{H:Hp}{v:V}{t:Bool}{d:Dt}{ds:List Dt}(h:itB t d=some ds)(i:Is K H v d):∃ a xs,v=.ref a/\SqB t K H a xs/\Iss K H xs ds:=by
 cases t with
 | true=>rw[pj h]at i;exact i.bX
 | false =>
  rw[uO h]at i
  obtain⟨a,xs,e,q,r⟩:=i.lst_inv
  exact⟨a,xs,e,SqL.of q,r⟩
theorem a_.jX {K:PySem.W.Frag}{H H':Hp}{t:Bool}{a:Addr}{xs:List V}(e:a_ H H')(h:SqB t K H a xs):SqB t K H' a xs:=by
 cases t with
 | true=>exact e.nC h
 | false=>exact e.seq h
noncomputable def D6 (t1 t2:Bool):List Dt->Option (List Dt)
 | [x,y]=>(itB t1 x).bind λ xs=>(itB t2 y).map λ ys=>(xs.zip ys).map λ(p,q)=>.tup [p,q]
 | _=>none
theorem nn {a b:Nat}(h:a≠b):@Ne Addr a b:=h
theorem D7 (t1 t2:Bool)(x y:Addr)(h:Heap):IsZip (lh t1 t2 x y h) (h.objs.size+4) (h.objs.size+2) (h.objs.size+3) .none/\IsPair (lh t1 t2 x y h) (h.objs.size+2) (.ref h.objs.size) (.ref (h.objs.size+1))/\IsPair (lh t1 t2 x y h) (h.objs.size+3) .none .none /\
  ItB t1 (lh t1 t2 x y h) h.objs.size x 0/\ItB t2 (lh t1 t2 x y h) (h.objs.size+1) y 0/\∀ b u,h.get? b=some u->(lh t1 t2 x y h).get? b=some u:=by
 have fr:∀ t a,(g_ t a).isFreed=false:=λ t a=>by cases t<;>rfl
 have up:∀ (o1:Obj) (g:Heap) (n:Nat),g.objs.size=n->o1.isFreed=false->(g.push o1).get? n=some o1:=λ o1 g n e f=>by subst e;exact aG _ f
 unfold lh
 generalize hn:h.objs.size=n
 have z1:(h.push (g_ t1 x)).objs.size=n+1:=by rw[Heap.size_push,hn]
 have z2:((h.push (g_ t1 x)).push (g_ t2 y)).objs.size=n+2:=by rw[Heap.size_push,z1]
 refine⟨?_,?_,?_,?_,?_,?_⟩
 ·refine up _ _ _ ?_ rfl
  rw[Heap.size_push,Heap.size_push,z2]
 ·refine aC _ (aC _ (up _ _ _ ?_ rfl))
  rw[z2]
 ·refine aC _ (up _ _ _ ?_ rfl)
  rw[Heap.size_push,z2]
 ·have g:=aC (⟨.type "zip",none,.fields #[.none,.bool false,.bool false,.ref (n+2),.ref (n+3)],#[]⟩:Obj) (aC (⟨.type "tuple",none,.seq #[.none,.none] 0,#[]⟩:Obj) (aC (⟨.type "tuple",none,.seq #[.ref n,.ref (n+1)] 0,#[]⟩:Obj) (aC (g_ t2 y) (up (g_ t1 x) h n hn (fr _ _)))))
  cases t1 with
  | true=>exact⟨_,g,rfl,rfl⟩
  | false=>exact⟨_,g,rfl,rfl⟩
 ·have g:=aC (⟨.type "zip",none,.fields #[.none,.bool false,.bool false,.ref (n+2),.ref (n+3)],#[]⟩:Obj) (aC (⟨.type "tuple",none,.seq #[.none,.none] 0,#[]⟩:Obj) (aC (⟨.type "tuple",none,.seq #[.ref n,.ref (n+1)] 0,#[]⟩:Obj) (up (g_ t2 y) _ (n+1) z1 (fr _ _))))
  cases t2 with
  | true=>exact⟨_,g,rfl,rfl⟩
  | false=>exact⟨_,g,rfl,rfl⟩
 ·exact λ b u e=>aC _ (aC _ (aC _ (aC _ (aC _ e))))
theorem Ji {ta:TA}{elts:List Expr}{kk:Nat}{ps p:Pos}(t1 t2:Bool)(hg:Gl X "zip")(hm:X.mg "zip"=none)(ha:PA X [a,b] ta)(hs:starEach [a,b] X.env=[(false,eval a X.env),(false,eval b X.env)]:=by rfl)(hs2:starEach [b] X.env=[(false,eval b X.env)]:=by rfl)
  (hv:bootBuiltins "zip"=some (.type "zip"):=by rfl) :
  PI X (.Tuple elts kk ps) (.Call (.Name "zip" p) [a,b] [] pos) (λ σ H R=>ta σ H λ vs H1=>∃ x y,vs=[.ref x,.ref y]/\(∃ xs,SqB t1 X.K H1 x xs)/\(∃ ys,SqB t2 X.K H1 y ys)/\R (Itz t1 t2 X.K x y) H1):=by
 intro pins s σ H R I h
 refine Call_ (mK I hg hm hv (PyProof.Rows.callWith_type1 (thn (ha pos pins s σ H _ I h) λ us s1 ⟨vs,H1,I1,r1,q1⟩=>?_) (by rw[hs,hs2]) (by rw[hs2];rfl)))
 obtain⟨x,y,rfl,⟨xs,hx⟩,⟨ys,hy⟩,q⟩:=q1
 obtain⟨u,u',rfl,ru,ru'⟩:=vals2 r1
 cases ru
 cases ru'
 obtain⟨its1,_,p1,_⟩:=I1.jX hx
 obtain⟨its2,_,p2,_⟩:=I1.jX hy
 refine callType_new F.called_zip (by decide) (F.typeCall_zip_2 _ _) (F.newCall_zip_2 _ _) (λ obj=>F.args_object_init_3 obj _ _) F.entry_zip_new (Je t1 t2 x y its1.toArray its2.toArray) ⟨p1,p2,?_⟩
 obtain⟨k1,k2,k3,k4,k5,k6⟩:=D7 t1 t2 x y s1.heap
 show _/\_
 refine⟨⟨_,k1,rfl⟩,wpAny_pyIter_zip (s:={s1 with heap:=lh t1 t2 x y s1.heap}) (z:=s1.heap.objs.size+4) k1 ?_⟩
 have I2:Inv X pins σ H1 {s1 with heap:=lh t1 t2 x y s1.heap}:=I1.kept (t':=s1.toks) k6
 refine⟨_,[s1.heap.objs.size+4,s1.heap.objs.size+2,s1.heap.objs.size+3,s1.heap.objs.size,s1.heap.objs.size+1],_,_,H1,rfl,I2,D4 t1 t2 x y (s1.heap.objs.size+4) (s1.heap.objs.size+2) (s1.heap.objs.size+3) s1.heap.objs.size (s1.heap.objs.size+1) (nn (by omega)) (nn (by omega)) (nn (by omega)) (nn (by omega)) (nn (by omega)) (nn (by omega)) (nn (by omega)) (nn (by omega)) (nn (by omega)) (nn (by omega)),⟨k1,k2,⟨_,_,k3⟩,k4,k5⟩,λ c hc=>?_,q⟩
 have hc:s1.heap.objs.size<=c:=by
  simp only[ar,List.not_mem_nil,or_false]at hc
  rcases hc with rfl | rfl | rfl | rfl | rfl
  ·exact Nat.le_add_right _ _
  ·exact Nat.le_add_right _ _
  ·exact Nat.le_add_right _ _
  ·exact ag _
  ·exact Nat.le_add_right _ _
 exact I1.BW hc (I1.hok.fresh hc)
theorem Jj {gs:DE->Option (List Dt)}{elts:List Expr}{kk:Nat}{ps p:Pos}(t1 t2:Bool)(hm:X.mg "zip"=none)(ha:PDs X [a,b] gs)(hg:Gl X "zip":=by rfl)(hs:starEach [a,b] X.env=[(false,eval a X.env),(false,eval b X.env)]:=by rfl)(hs2:starEach [b] X.env=[(false,eval b X.env)]:=by rfl)
  (hv:bootBuiltins "zip"=some (.type "zip"):=by rfl):PI X (.Tuple elts kk ps) (.Call (.Name "zip" p) [a,b] [] pos) (iD X.K (λ δ=>(gs δ).bind (D6 t1 t2))) :=
 (Ji t1 t2 hg hm ha hs hs2 hv).of λ σ H R hz7=>by
  obtain⟨δ,ds,S,q,k⟩:=hz7
  obtain⟨x,e1,e2⟩:=aQ q
  match x,e2 with
  | [x,y],e2 =>
   obtain⟨xs,f1,e2⟩:=aQ (show(itB t1 x).bind _=_ from e2)
   obtain⟨ys,f2,e2⟩:=br e2
   subst e2
   refine⟨δ,_,S,e1,λ vs H1 s1 i1=>?_⟩
   cases i1 with
   | cons i1 i2 =>
    cases i2 with
    | cons i2 i3 =>
     cases i3
     obtain⟨c,vs1,rfl,q1,is1⟩:=vD f1 i1
     obtain⟨d,vs2,rfl,q2,is2⟩:=vD f2 i2
     refine⟨c,d,rfl,⟨_,q1⟩,⟨_,q2⟩,k _ H1 s1 λ H2 s2=>⟨λ i dd hd=>?_,⟨vs1,vs2,s2.jX q1,s2.jX q2,?_⟩⟩⟩
     ·rw[List.getElem?_map]at hd
      cases hz:(xs.zip ys)[i]? with
      | none=>rw[hz]at hd;cases hd
      | some pr =>
       rw[hz]at hd
       obtain⟨pa,pb⟩:=pr
       cases hd
       obtain⟨h1,h2⟩:=List.getElem?_zip_eq_some.mp hz
       obtain⟨v1,g1,j1⟩:=is1.get h1
       obtain⟨v2,g2,j2⟩:=is2.get h2
       refine⟨⟨vs1,vs2,s2.jX q1,s2.jX q2,(List.getElem?_eq_some_iff.mp g1).1,(List.getElem?_eq_some_iff.mp g2).1⟩,?_⟩
       rintro v H3 ⟨p,a1,a2,rfl,hp,rfl,r1,r2⟩
       have w1:=r1 vs1 (s2.jX q1)
       have w2:=r2 vs2 (s2.jX q2)
       rw[g1]at w1;cases w1
       rw[g2]at w2;cases w2
       exact⟨a_.upd hp,.tup (SqT.of aU) (.cons ((j1.ext s2).ext (a_.upd hp)) (.cons ((j2.ext s2).ext (a_.upd hp)) .nil))⟩
     ·have l1:=is1.length
      have l2:=is2.length
      simp only[ah,List.length_zip]
      omega
end
noncomputable def GD (K:PySem.W.Frag)(g:TG)(gg:Dt->DE->Option DE):Prop:=∀ H x d σ δ δ' (Q:St->Hp->Prop),Is K H x d->Sat K H σ δ->gg d δ=some δ'->(∀ σ',Sat K H σ' δ'->Q σ' H)->g x σ H Q
noncomputable def ggN (i:Nat):Dt->DE->Option DE:=λ d δ=>some (δ.set i (some d))
noncomputable def fJ (i j:Nat):Dt->DE->Option DE:=λ d δ=>match d with
 | .tup [x,y]=>some ((δ.set i (some x)).set j (some y))
 | _=>none
theorem D8 {i j:Nat}{d:Dt}{δ δ':DE}(e:fJ i j d δ=some δ'):∃ x y,d=.tup [x,y]/\δ'=(δ.set i (some x)).set j (some y):=by
 cases d with
 | tup l=>cases l with
  | nil=>cases e
  | cons x l=>cases l with
   | nil=>cases e
   | cons y l=>cases l with
    | nil=>exact⟨x,y,rfl,(ao e).symm⟩
    | cons _ _=>cases e
 | _=>cases e
theorem cZ {K:PySem.W.Frag}{i:Nat}:GD K (bT i) (ggN i):=λ H x d σ δ δ' Q h S e q=>by cases e;exact q _ (S.set h)
theorem d8 {K:PySem.W.Frag}{i j:Nat}:GD K (BV K 2 (mr (bT i) (mr (bT j) BU))) (fJ i j):=λ H x d σ δ δ' Q h S e q=>by
 obtain⟨d1,d2,rfl,rfl⟩:=D8 e
 obtain⟨a,xs,rfl,hq,is⟩:=h.bX
 cases is with
 | cons i1 i2 =>
  cases i2 with
  | cons i2 i3 =>
   cases i3
   exact⟨a,_,rfl,hq,rfl,_,_,rfl,_,_,rfl,rfl,q _ ((S.set i1).set i2)⟩
noncomputable def mB (own:List Str)(ix:List Nat)(δ:DE):DE:=own.map (λ _=>none)++ix.map λ i=>(δ[i]?).getD none
noncomputable def sr (gg:Dt->DE->Option DE)(gt:DE->Option Bool)(ge:DE->Option Dt)(δc:DE):List Dt->Option (List Dt)
 | []=>some []
 | d::r=>(gg d δc).bind λ δ'=>(gt δ').bind λ b=>if b=true then (ge δ').bind λ y=>(sr gg gt ge δc r).map (y::·) else sr gg gt ge δc r
noncomputable def gLC (own:List Str)(ix:List Nat)(gi:DE->Option (List Dt))(gg:Dt->DE->Option DE)(gt:DE->Option Bool)(ge:DE->Option Dt):DE->Option Dt :=
 λ δ=>(gi δ).bind λ ds=>if ds.length<=1000 then (sr gg gt ge (mB own ix δ) ds).map .lst else none
noncomputable def dB:DE->Option Bool:=λ _=>some true
section
variable {X:Cx}{e a b c:Expr}{es:List Expr}{pos:Pos}{tg iter elt:Expr}{ifs:List Expr}{own fr:List Str}{ix:List Nat}{scope:Scope}{g:TG}{gg:Dt->DE->Option DE}{gi:DE->Option (List Dt)}{gt:DE->Option Bool}{ge:DE->Option Dt}
theorem fK:PF X [] (tDT X.K dB):=λ pins s σ H Q I ⟨δ,b,S,e,q⟩=>by cases e;exact zK pins s σ H Q I (q H (a_.refl H))
theorem sx (h:PDT X c gt):PF X [c] (tDT X.K gt):=Ja h
set_option tactic.hygienic true in
theorem D9 {K:PySem.W.Frag}(hgd:GD K g gg)(σ:St)(H:Hp)(Q:VK)(h:tD K (gLC own ix gi gg gt ge) σ H Q):tLC own ix (iD K gi) g (tDT K gt) (tD K ge) σ H Q:=by
 obtain⟨δ,d,S,e,q⟩:=h
 obtain⟨ds,e1,e⟩:=aQ e
 split at e
 ·rename_i hlen
  obtain⟨rs,e2,e⟩:=br e
  subst e
  refine⟨δ,ds,S,e1,λ J H1 s1 ok=>?_⟩
  refine⟨λ i m ys H'=>m=ds.length-i/\i<=ds.length/\a_ H1 H'/\ys.length<=i/\∃ us vs,Iss K H' ys us/\sr gg gt ge (mB own ix δ) (ds.drop i)=some vs/\us++vs=rs,⟨_,rfl,Nat.zero_le _,a_.refl _,ag _,[],rs,.nil,by simpa using e2,rfl⟩,?_⟩
  rintro i m ys H' ⟨rfl,hi,s2,hy,us,vs,is,e3,e4⟩
  obtain⟨items,stop⟩:=ok H' s2
  by_cases hlt:i<ds.length
  ·right
   have hdi:ds[i]?=some ds[i]:=by simp[hlt]
   obtain⟨go,yld⟩:=items i _ hdi
   refine⟨go,by have:=oT;rw[sizeLine_eq];omega,λ x H'' hyl=>?_⟩
   obtain⟨s3,ix3⟩:=yld x H'' hyl
   rw[List.drop_eq_getElem_cons hlt]at e3
   obtain⟨δ',f1,e3⟩:=aQ (show(gg ds[i] (mB own ix δ)).bind _=_ from e3)
   obtain⟨k,f2,e3⟩:=aQ e3
   have S':Sat K H'' (d3 own ix σ) (mB own ix δ):=(S.ext ((s1.trans s2).trans s3)).comp
   refine hgd H'' x ds[i] _ _ δ' _ ix3 S' f1 λ σ' Sσ=>⟨δ',k,Sσ,f2,λ H3 s4=>?_⟩
   cases k with
   | true =>
    rw[ae rfl]at e3 ⊢
    obtain⟨y,f3,e3⟩:=aQ e3
    obtain⟨r,f4,e3⟩:=br e3
    subst e3
    refine⟨δ',y,Sσ.ext s4,f3,λ v H4 s5 iv=>⟨ds.length-(i+1),by omega,rfl,hlt,((s2.trans s3).trans s4).trans s5,by simp;omega,us++[y],r,(is.ext ((s3.trans s4).trans s5)).snoc iv,f4,by rw[<-e4];simp⟩⟩
   | false =>
    rw[af aq]at e3 ⊢
    exact⟨ds.length-(i+1),by omega,rfl,hlt,(s2.trans s3).trans s4,by omega,us,vs,is.ext (s3.trans s4),e3,e4⟩
  ·left
   have hi:i=ds.length:=by omega
   subst hi
   rw[List.drop_length]at e3
   cases e3
   rw[List.append_nil]at e4
   subst e4
   exact⟨stop,λ p hp=>q _ _ ((s1.trans s2).trans (a_.upd hp)) (.lst aU (is.ext (a_.upd hp)))⟩
 ·cases e
theorem nF (hc:X.calm=true)(S:fZ X scope own fr ix)(hi:PI X tg iter (iD X.K gi))(hg:∀ C s H fp,PG (X.comp (own++fr) scope C s H fp) tg g)(hgo:zL own.length g)(hgd:GD X.K g gg)
  (ht:∀ C s H fp,PF (X.comp (own++fr) scope C s H fp) ifs (tDT X.K gt)) (he:∀ C s H fp,PE (X.comp (own++fr) scope C s H fp) elt (tD X.K ge)) (hs:∀ x,foldedSetIterable iter X.env x=pure x:=by intro _;rfl) :
  PD X (.ListComp elt [⟨tg,iter,ifs,0⟩] scope pos) (gLC own ix gi gg gt ge):=(HB hc S hi hg hgo ht he hs).of (D9 hgd)
inductive RD where
 | nx (δ:DE) | rt (d:Dt)
noncomputable def MF (K:PySem.W.Frag)(D:Ends)(H:Hp):RD->Prop
 | .nx δ=>∀ σ,Sat K H σ δ->D.nx σ H
 | .rt d=>∀ v,Is K H v d->D.rt v H
noncomputable def tDS (K:PySem.W.Frag)(g:DE->Option RD):TS:=λ D σ H=>∃ δ r,Sat K H σ δ/\g δ=some r/\∀ H',a_ H H'->MF K D H' r
variable {st:Stmt}{rest sts:List Stmt}{gs gs':DE->Option RD}{ga:DE->Option Dt}
noncomputable abbrev PDS (X:Cx)(st:Stmt)(g:DE->Option RD):Prop:=PS X st (tDS X.K g)
noncomputable abbrev zT (X:Cx)(st:List Stmt)(g:DE->Option RD):Prop:=PSs X st (tDS X.K g)
noncomputable def bP (g g':DE->Option RD):DE->Option RD:=λ δ=>(g δ).bind λ r=>match r with
 | .nx δ'=>g' δ'
 | .rt d=>some (.rt d)
theorem c_:zT X [] (λ δ=>some (.nx δ)):=jR.of λ D σ H ⟨δ,r,S,e,q⟩=>by cases e;exact q H (a_.refl H) σ S
theorem bc (h1:PDS X st gs)(h2:zT X rest gs'):zT X (st::rest) (bP gs gs'):=(ba h1 h2).of λ D σ H hz1=>by
 obtain⟨δ,r,S,e,q⟩:=hz1
 obtain⟨r1,e1,e⟩:=aQ e
 refine⟨δ,r1,S,e1,λ H1 s1=>?_⟩
 cases r1 with
 | nx δ'=>exact λ σ' S'=>⟨δ',r,S',e,λ H2 s2=>q H2 (s1.trans s2)⟩
 | rt d=>cases e;exact q H1 s1
theorem aZ (h1:PDS X st gs):zT X [st] gs:=bW h1
noncomputable def fy:DE->Option RD:=λ δ=>some (.nx δ)
noncomputable def dR (i:Nat)(g:DE->Option Dt):DE->Option RD:=λ δ=>(g δ).map λ d=>.nx (δ.set i (some d))
theorem eW {i:Nat}{x:Str}{pos':Pos}(hN:X.N.Nodup)(he:PD X e ga)(hi:X.N[i]?=some x:=by rfl)(hx:Loc X.env.scope x:=by trivial)(hs:swapsWith e (some (.Name x pos')) pos.line X.env=pure false:=by rfl)(hf:X.fn x=true\/X.env.scope.names.lookup x=some .local:=by trivial) :
  PDS X (.Assign [.Name x pos'] e pos) (dR i ga):=(b_ hN hi hx he hs hf).of λ D σ H hz2=>by
 obtain⟨δ,r,S,e,q⟩:=hz2
 obtain⟨d,e1,e⟩:=br e
 subst e
 exact⟨δ,d,S,e1,λ v H1 s1 i1=>q H1 s1 _ ((S.ext s1).set i1)⟩
theorem xI {i:Nat}{x:Str}{px spos:Pos}(hN:X.N.Nodup)(hc:X.calm=true)(S:fZ X scope own fr ix)(hi:PI X tg iter (iD X.K gi))(hg:∀ C s H fp,PG (X.comp (own++fr) scope C s H fp) tg g)(hgo:zL own.length g)(hgd:GD X.K g gg)
  (ht:∀ C s H fp,PF (X.comp (own++fr) scope C s H fp) ifs (tDT X.K gt)) (he:∀ C s H fp,PE (X.comp (own++fr) scope C s H fp) elt (tD X.K ge)) (hi':X.N[i]?=some x:=by rfl) (hx:Loc X.env.scope x:=by trivial)
  (hsw:swapsWith (.ListComp elt [⟨tg,iter,ifs,0⟩] scope pos) (some (.Name x px)) spos.line X.env=pure true:=by rfl) (hf:X.fn x=true\/X.env.scope.names.lookup x=some .local:=by trivial) (hs:∀ x,foldedSetIterable iter X.env x=pure x:=by intro _;rfl) :
  PDS X (.Assign [.Name x px] (.ListComp elt [⟨tg,iter,ifs,0⟩] scope pos) spos) (dR i (gLC own ix gi gg gt ge)):=(HC hN hi' hx hc S hi hg hgo ht he hsw hf hs).of λ D σ H hz3=>by
 obtain⟨δ,r,S,e,q⟩:=hz3
 obtain⟨d,e1,e⟩:=br e
 subst e
 exact D9 hgd σ H _ ⟨δ,d,S,e1,λ v H1 s1 i1=>q H1 s1 _ ((S.ext s1).set i1)⟩
noncomputable def qx (gg:Dt->DE->Option DE)(g:DE->Option Dt):DE->Option RD:=λ δ=>(g δ).bind λ d=>(gg d δ).map .nx
theorem lj (he:PD X e ga)(hg:PG X tg g)(hgd:GD X.K g gg)(hs:swapsWithSole [tg] e pos.line X.env=pure false:=by rfl)(hw:swappedStores [tg] e X.env=pure none:=by rfl)
  (h1:(assignEach [tg] X.env).map (·.2)=[assign tg X.env]:=by rfl):PDS X (.Assign [tg] e pos) (qx gg ga):=(oN he hg hs hw h1).of λ D σ H hz4=>by
 obtain⟨δ,r,S,e,q⟩:=hz4
 obtain⟨d,e1,e⟩:=aQ e
 obtain⟨δ',e2,e⟩:=br e
 subst e
 exact⟨δ,d,S,e1,λ v H1 s1 i1=>hgd H1 v d σ δ δ' _ i1 (S.ext s1) e2 λ σ' S'=>q H1 s1 σ' S'⟩
noncomputable def cu (g:DE->Option Dt):DE->Option RD:=λ δ=>(g δ).map .rt
theorem bB (he:PD X e ga):PDS X (.Return (some e) pos) (cu ga):=(jq he).of λ D σ H hz5=>by
 obtain⟨δ,r,S,e,q⟩:=hz5
 obtain⟨d,e1,e⟩:=br e
 subst e
 exact⟨δ,d,S,e1,λ v H1 s1 i1=>q H1 s1 v i1⟩
noncomputable def eZ (g:DE->Option Dt):DE->Option RD:=λ δ=>(g δ).map λ _=>.nx δ
theorem dH (he:PD X e ga)(hs:swapsWith e none pos.line X.env=pure false:=by rfl):PDS X (.Expr e pos) (eZ ga):=(qM he hs).of λ D σ H hz6=>by
 obtain⟨δ,r,S,e,q⟩:=hz6
 obtain⟨d,e1,e⟩:=br e
 subst e
 exact⟨δ,d,S,e1,λ v H1 s1 i1=>q H1 s1 σ (S.ext s1)⟩
noncomputable def jt (gc:DE->Option Bool)(g g':DE->Option RD):DE->Option RD:=λ δ=>(gc δ).bind λ k=>if k=true then g δ else g' δ
theorem gL {gc:DE->Option Bool}{sa sb:List Stmt}(hc:PDT X c gc)(ha:zT X sa gs)(hb:zT X sb gs'):PDS X (.If c sa sb pos) (jt gc gs gs'):=(rq hc ha hb).of λ D σ H hz7=>by
 obtain⟨δ,r,S,e,q⟩:=hz7
 obtain⟨k,e1,e⟩:=aQ e
 refine⟨δ,k,S,e1,λ H1 s1=>?_⟩
 cases k with
 | true=>rw[ae rfl]at e ⊢;exact⟨δ,r,S.ext s1,e,λ H2 s2=>q H2 (s1.trans s2)⟩
 | false=>rw[af aq]at e ⊢;exact⟨δ,r,S.ext s1,e,λ H2 s2=>q H2 (s1.trans s2)⟩
noncomputable def pA:DE->Option RD:=λ _=>none
theorem nG:PDS X st pA:=λ _ _ _ _ _ _ ⟨_,_,_,e,_⟩=>by cases e
noncomputable def mC (gg:Dt->DE->Option DE)(gb:DE->Option RD):DE->List Dt->Option RD
 | δ,[]=>some (.nx δ)
 | δ,d::r=>(gg d δ).bind λ δ'=>(gb δ').bind λ x=>match x with
  | .nx δ''=>mC gg gb δ'' r
  | .rt v=>some (.rt v)
noncomputable def xJ (gi:DE->Option (List Dt))(gg:Dt->DE->Option DE)(gb:DE->Option RD):DE->Option RD:=λ δ=>(gi δ).bind λ ds=>mC gg gb δ ds
theorem vE {body:List Stmt}(hp:PassesOwn (model X.prog X.w) X.A X.env X.xe)(hc:X.calm=true)(hi:PI X tg iter (iD X.K gi))(hg:PG X tg g)(hgd:GD X.K g gg)(hb:zT X body gs)
  (hs:∀ x,foldedSetIterable iter X.env x=pure x:=by intro _;rfl):PDS X (.For tg iter body [] pos) (xJ gi gg gs):=(jT hp hc hi hg hb hs).of λ D σ H hz8=>by
 obtain⟨δ,r,S,e,q⟩:=hz8
 obtain⟨ds,e1,e⟩:=aQ e
 refine⟨δ,ds,S,e1,λ J H1 s1 ok=>?_⟩
 refine⟨λ i m σ' H'=>m=ds.length-i/\i<=ds.length/\a_ H1 H'/\∃ δ',Sat X.K H' σ' δ'/\mC gg gs δ' (ds.drop i)=some r,⟨_,rfl,Nat.zero_le _,a_.refl _,δ,S.ext s1,by simpa using e⟩,?_⟩
 rintro i m σ' H' ⟨rfl,hi,s2,δ',S',e3⟩
 obtain⟨items,stop⟩:=ok H' s2
 by_cases hlt:i<ds.length
 ·right
  have hdi:ds[i]?=some ds[i]:=by simp[hlt]
  obtain⟨go,yld⟩:=items i _ hdi
  rw[List.drop_eq_getElem_cons hlt]at e3
  obtain⟨δ1,f1,e3⟩:=aQ (show(gg ds[i] δ').bind _=_ from e3)
  obtain⟨x,f2,e3⟩:=aQ e3
  refine⟨go,λ σ2 H2=>∃ δ2,x=.nx δ2/\a_ H1 H2/\Sat X.K H2 σ2 δ2,?_,λ v H'' hyl=>?_⟩
  ·rintro σ2 H2 ⟨δ2,rfl,s5,S5⟩
   exact⟨_,by omega,rfl,hlt,s5,δ2,S5,e3⟩
  ·obtain⟨s3,iv⟩:=yld v H'' hyl
   refine hgd H'' v ds[i] σ' δ' δ1 _ iv (S'.ext s3) f1 λ σ2 S2=>⟨δ1,x,S2,f2,λ H3 s4=>?_⟩
   cases x with
   | nx δ2=>exact λ σ3 S3=>⟨δ2,rfl,(s2.trans s3).trans s4,S3⟩
   | rt d=>cases e3;exact q H3 (((s1.trans s2).trans s3).trans s4)
 ·left
  have hi:i=ds.length:=by omega
  subst hi
  rw[List.drop_length]at e3
  cases e3
  exact⟨stop,q H' (s1.trans s2) σ' S'⟩
noncomputable def K5 (i j:Nat)(g:DE->Option (List Dt)):DE->Option RD:=λ δ=>(g δ).bind λ ds=>match ds with
 | [x,y]=>some (.nx ((δ.set i (some x)).set j (some y)))
 | _=>none
theorem gW {i j:Nat}{x y:Str}{gl:DE->Option (List Dt)}{px py pt:Pos}{kt k2 pt2}(hc:X.calm=true)(hN:X.N.Nodup)(ha:PDs X [a,b] gl)(hij:i≠j:=by decide)(hi:X.N[i]?=some x:=by rfl)(hj:X.N[j]?=some y:=by rfl)
  (hx:X.env.scope.names.lookup x=some .local:=by rfl) (hy:X.env.scope.names.lookup y=some .local:=by rfl)
  (hw:swappedStores [.Tuple [.Name x px,.Name y py] kt pt] (.Tuple [a,b] k2 pt2) X.env=pure (some [x,y]):=by rfl)
  (hs:swapsWithSole [.Tuple [.Name x px,.Name y py] kt pt] (.Tuple [a,b] k2 pt2) pos.line X.env=pure false:=by rfl) :
  PDS X (.Assign [.Tuple [.Name x px,.Name y py] kt pt] (.Tuple [a,b] k2 pt2) pos) (K5 i j gl):=(Iz hc hN hi hj hij hx hy ha hw hs).of λ D σ H hz9=>by
 obtain⟨δ,r,S,e,q⟩:=hz9
 obtain⟨ds,e1,e⟩:=aQ e
 match ds,e with
 | [d1,d2],e =>
  cases e
  refine⟨δ,_,S,e1,λ vs H1 s1 i1=>?_⟩
  cases i1 with
  | cons i1 i2 =>
   cases i2 with
   | cons i2 i3 =>
    cases i3
    exact⟨_,_,rfl,q H1 s1 _ (((S.ext s1).set i1).set i2)⟩
end
noncomputable def K6:RD->Dt
 | .rt d=>d
 | .nx _=>.non
noncomputable def gX (N:List Str)(ds:List Dt):DE:=ds.map some++List.replicate (N.length-ds.length) none
section
variable {P:Program}{w:World}{K:PySem.W.Frag}{mg:Str->Option Value}{base:Heap}
theorem Fun.okD {x qual:Str}{st:Stmt}{f:Addr}{fd:FuncData}{N ps:List Str}{k:Nat}{fD:List Dt->Option Dt}{g:DE->Option RD}(F:Fun K x qual st f fd)(S:bj N ps (aX st))
  (hbody:∀ (cdv:Value) (A:Around) (outer:List Env) (s:Shared) (H:Hp) (E:XK),fG k (A.deeper (envOfC qual (aX st) s.heap.objs.size f cdv)) ->
   PSs (zo CX0 P w K mg base N qual (aX st) f cdv A outer s H E).nox (iZ st) (tDS K g))
  (hg:∀ ds d,ds.length=ps.length->fD ds=some d->∃ r,g (gX N ds)=some r/\K6 r=d):bQ P w K mg base CX0 (k+1) f fd ps (spD K ps.length fD):=by
 refine F.ok S (λ vs H Q E h=>?_) (λ cdv A outer s H vs Q E hr h=>?_)
 ·obtain⟨ds,d,hl,is,_⟩:=h
  rw[is.length,hl]
 ·obtain⟨ds,d,hl,is,e,q⟩:=h
  obtain⟨r,e1,e2⟩:=hg ds d hl e
  refine⟨_,hbody cdv A outer s H E hr,gX N ds,r,is.start,e1,λ H' s'=>?_⟩
  cases r with
  | nx δ=>subst e2;exact λ σ _=>q _ H' s' .non
  | rt d'=>subst e2;exact λ v iv=>q v H' s' iv
end
section
variable {X:Cx}{e a b c:Expr}{es:List Expr}{pos:Pos}
theorem opD {f:Value->Value->Sem Value}{r:R2}{fD:Dt->Dt->Option Dt}(h:OpR X f r)(w:∀ x y H Q dx dy d,Is X.K H x dx->Is X.K H y dy->fD dx dy=some d->(∀ v H',a_ H H'->Is X.K H' v d->Q v H')->r x y H Q):OpR X f (rD X.K fD) :=
 λ pins s σ H x y v u Q I rx ry ⟨dx,dy,d,i1,i2,e,q⟩=>h pins s σ H x y v u Q I rx ry (w x y H Q dx dy d i1 i2 e q)
theorem sy {f:Value}{r:List V->Hp->VK->Prop}{fD:List Dt->Option Dt}(h:cG X f r)(w:∀ xs H Q ds d,Iss X.K H xs ds->fD ds=some d->(∀ v H',a_ H H'->Is X.K H' v d->Q v H')->r xs H Q):cG X f (cD X.K fD) :=
 λ pins s σ H xs us Q I rx ⟨ds,d,i1,e,q⟩=>h pins s σ H xs us Q I rx (w xs H Q ds d i1 e q)
noncomputable def dI (g:Int->Int->Int):Dt->Dt->Option Dt
 | .int i,.int j=>some (.int (g i j))
 | _,_=>none
noncomputable def dIB (g:Int->Int->Bool):Dt->Dt->Option Dt
 | .int i,.int j=>some (.bl (g i j))
 | _,_=>none
noncomputable def bd (i:Int):Prop:=i.natAbs<2 ^ 4000
noncomputable instance (i:Int):Decidable (bd i):=inferInstanceAs (Decidable (i.natAbs<2 ^ 4000))
noncomputable def dIC (C:Int->Int->Prop)[∀ i j,Decidable (C i j)](g:Int->Int->Int):Dt->Dt->Option Dt
 | .int i,.int j=>if C i j then some (.int (g i j)) else none
 | _,_=>none
theorem Jk {g:Int->Int->Int}{x y d:Dt}(h:dI g x y=some d):∃ i j,x=.int i/\y=.int j/\d=.int (g i j):=by
 cases x with
 | int i=>cases y with
  | int j=>exact⟨_,_,rfl,rfl,(ao h).symm⟩
  | _=>cases h
 | _=>cases h
theorem Gh {g:Int->Int->Bool}{x y d:Dt}(h:dIB g x y=some d):∃ i j,x=.int i/\y=.int j/\d=.bl (g i j):=by
 cases x with
 | int i=>cases y with
  | int j=>exact⟨_,_,rfl,rfl,(ao h).symm⟩
  | _=>cases h
 | _=>cases h
theorem Gi {C:Int->Int->Prop}[∀ i j,Decidable (C i j)]{g:Int->Int->Int}{x y d:Dt}(h:dIC C g x y=some d):∃ i j,x=.int i/\y=.int j/\C i j/\d=.int (g i j):=by
 cases x with
 | int i=>cases y with
  | int j =>
   have h:(if C i j then some (Dt.int (g i j)) else none)=some d:=h
   by_cases hc:C i j
   ·rw[ae hc]at h;exact⟨_,_,rfl,rfl,hc,(ao h).symm⟩
   ·rw[af hc]at h;cases h
  | _=>cases h
 | _=>cases h
theorem oI0 {f:Value->Value->Sem Value}{g:Int->Int->Int}(h:OpR X f (rI0 λ i j=>.int (g i j))):OpR X f (rD X.K (dI g)):=opD h λ x y H Q dx dy d i1 i2 e q=>by
 obtain⟨i,j,rfl,rfl,rfl⟩:=Jk e
 exact⟨i,j,i1.int_inv,i2.int_inv,q _ H (a_.refl H) (.int _)⟩
theorem oB0 {f:Value->Value->Sem Value}{g:Int->Int->Bool}(h:OpR X f (rI0 λ i j=>.bl (g i j))):OpR X f (rD X.K (dIB g)):=opD h λ x y H Q dx dy d i1 i2 e q=>by
 obtain⟨i,j,rfl,rfl,rfl⟩:=Gh e
 exact⟨i,j,i1.int_inv,i2.int_inv,q _ H (a_.refl H) (.bl _)⟩
theorem oIC {f:Value->Value->Sem Value}{C C':Int->Int->Prop}[∀ i j,Decidable (C i j)]{g:Int->Int->Int}(h:OpR X f (rI C' λ i j=>.int (g i j)))(w:∀ i j,C i j->C' i j):OpR X f (rD X.K (dIC C g)):=opD h λ x y H Q dx dy d i1 i2 e q=>by
 obtain⟨i,j,rfl,rfl,hc,rfl⟩:=Gi e
 exact⟨i,j,i1.int_inv,i2.int_inv,w i j hc,q _ H (a_.refl H) (.int _)⟩
theorem D_:OpR X (binaryOp .Add) (rD X.K (dI (·+·))):=oI0 jr
theorem A4:OpR X (binaryOp .Sub) (rD X.K (dI (·-·))):=oI0 rB
theorem Gj:OpR X (compareOp .Lt) (rD X.K (dIB λ i j=>decide (i<j))):=oB0 Hu
theorem Jl:OpR X (compareOp .LtE) (rD X.K (dIB λ i j=>decide (i<=j))):=oB0 KD
theorem MG:OpR X (compareOp .GtE) (rD X.K (dIB λ i j=>decide (j<=i))):=oB0 Hv
theorem A5 {i:Int}(h:bd i):Builtin.Int.intBits i<=2 ^ 20:=Nat.le_trans (PyProof.Rows.intBits_le h) (by decide)
theorem Jm {i:Int}(h:bd i):i.natAbs.log2<9000:=by
 by_cases h0:i.natAbs=0
 ·rw[h0];decide +kernel
 ·exact(Nat.log2_lt h0).mpr (aB h (Nat.pow_le_pow_right (by decide) (by decide)))
noncomputable abbrev ju:=dIC (λ i j=>bd i/\bd j) (·*·)
noncomputable abbrev Cf:=dIC (λ _ j=>0<j/\bd j) (· / ·)
noncomputable abbrev MH:=dIC (λ _ j=>0<j) (· % ·)
theorem i9:OpR X (binaryOp .Mult) (rD X.K ju):=oIC (C':=IntMulOk) (opI λ _ _ _ _ _ _ _ hc q=>mul_int q hc) λ i j h=>IntMulOk.of_bits (A5 h.1) (A5 h.2)
theorem xK:OpR X (binaryOp .FloorDiv) (rD X.K Cf):=oIC (C':=λ i j=>0<j/\bd j) (opI λ i j _ _ _ _ _ hc q=>by
 have h1:(0:Int)<j:=hc.1
 exact floordiv_int (by omega) (by rw[Int.fdiv_eq_ediv_of_nonneg i (by omega)];exact q) (.inl (PyProof.noPylong_of_log2 (Jm hc.2)))) λ i j h=>h
theorem HG:OpR X (binaryOp .Mod) (rD X.K MH):=oIC oR λ i j h=>h
mutual
inductive Sh:Dt->Dt->Prop
 | int (i j:Int):Sh (.int i) (.int j)
 | bl (i j:Bool):Sh (.bl i) (.bl j)
 | str (i j:Str):Sh (.str i) (.str j)
 | tup {ds es:List Dt}:Shs ds es->Sh (.tup ds) (.tup es)
inductive Shs:List Dt->List Dt->Prop
 | nil (es:List Dt):Shs [] es
 | MI (es:List Dt):Shs es []
 | cons {d e:Dt} {ds es:List Dt}:Sh d e->Shs ds es->Shs (d::ds) (e::es)
end
mutual
noncomputable def dEq:Dt->Dt->Bool
 | .int i,.int j=>i==j
 | .bl i,.bl j=>i==j
 | .str i,.str j=>i==j
 | .tup ds,.tup es=>jI ds es
 | _,_=>false
noncomputable def jI:List Dt->List Dt->Bool
 | [],[]=>true
 | d::ds,e::es=>dEq d e&&jI ds es
 | _,_=>false
end
noncomputable def sh1:Dt->Dt->Bool
 | .int _,.int _=>true
 | .bl _,.bl _=>true
 | .str _,.str _=>true
 | _,_=>false
noncomputable def xM:List Dt->List Dt->Bool
 | d::ds,e::es=>sh1 d e&&xM ds es
 | _,_=>true
noncomputable def sh2:Dt->Dt->Bool
 | .tup ds,.tup es=>xM ds es
 | d,e=>sh1 d e
noncomputable def vF:List Dt->List Dt->Bool
 | d::ds,e::es=>sh2 d e&&vF ds es
 | _,_=>true
noncomputable def sh3:Dt->Dt->Bool
 | .tup ds,.tup es=>vF ds es
 | d,e=>sh1 d e
theorem tY (e:Nat->Bool):∀ (n:Nat),(List.range (n+1)).all e=(e 0&&(List.range n).all λ i=>e (i+1)):=λ n=>by
 rw[List.range_succ_eq_map,List.all_cons,List.all_map]
 rfl
noncomputable def eAt (ds es:List Dt)(j:Nat):Bool:=match ds[j]?,es[j]? with
 | some d,some e=>dEq d e
 | _,_=>false
theorem A6:∀ (ds es:List Dt),((List.range (min ds.length es.length)).all (eAt ds es)&&ds.length==es.length)=jI ds es
 | [],[]=>rfl
 | [],e::es=>by simp[jI]
 | d::ds,[]=>by simp[jI]
 | d::ds,e::es=>by
  have ih:=A6 ds es
  rw[jI,<-ih]
  simp only[List.length_cons]
  rw[Nat.succ_min_succ,tY]
  have:(λ i=>eAt (d::ds) (e::es) (i+1))=eAt ds es:=by funext i;simp[eAt]
  rw[this]
  have h0:eAt (d::ds) (e::es) 0=dEq d e:=rfl
  rw[h0,Bool.and_assoc]
  congr 2
  simp
variable {pins:List (Addr×Obj)}{σ:St}{H:Hp}{s:Shared}
theorem Iss.vals {xs:List V}{ds:List Dt}(I:Inv X pins σ H s)(is:Iss X.K H xs ds){its:List Value}(r:Vals xs its){j:Nat}{d:Dt}(h:ds[j]?=some d):∃ v u,its[j]?=some u/\RelV v u/\Is X.K H v d:=by
 obtain⟨v,hv,iv⟩:=is.get h
 obtain⟨u,hu,ru⟩:=r.get hv
 exact⟨v,u,hu,ru,iv⟩
theorem Shs.get:∀ {ds es:List Dt},Shs ds es->∀ {j:Nat} {d e:Dt},ds[j]?=some d->es[j]?=some e->Sh d e
 | _,_,.nil _,j,d,e,h,_=>by simp at h
 | _,_,.MI _,j,d,e,_,h=>by simp at h
 | _,_,.cons h t,0,d,e,h1,h2=>by simp at h1 h2;subst h1;subst h2;exact h
 | _,_,.cons h t,j+1,d,e,h1,h2=>t.get (by simpa using h1) (by simpa using h2)
end
end L2
namespace L2
open PySem PySem.Spec PyProof.Rows Zp PySem.SeqAt
section
variable {X:Cx}{e a b c:Expr}{es:List Expr}{pos:Pos}{pins:List (Addr×Obj)}{σ:St}{H:Hp}{s:Shared}
theorem A7 {i j:Int}:dEq (.int i) (.int j)=(i==j):=by simp[dEq]
theorem Ea {i j:Bool}:dEq (.bl i) (.bl j)=(i==j):=by simp[dEq]
theorem A8 {i j:Str}:dEq (.str i) (.str j)=(i==j):=by simp[dEq]
theorem nH {i j:List Dt}:dEq (.tup i) (.tup j)=jI i j:=by simp[dEq]
theorem HH {A:Around}{d d':Dt}{v v':V}{u u':Value}(sh:sh1 d d'=true)(i:Is X.K H v d)(i':Is X.K H v' d')(r:RelV v u)(r':RelV v' u'):EqAt A s u u' (dEq d d'):=by
 cases d<;>cases d'<;>simp[sh1]at sh
 ·rw[i.fI]at r;rw[i'.fI]at r';cases r;cases r';rw[Ea];exact EqAt.bool_bool _ _
 ·rw[i.int_inv]at r;rw[i'.int_inv]at r';obtain⟨t,rfl⟩:=r;obtain⟨t',rfl⟩:=r';rw[A7];exact EqAt.int_int _ _ _ _
 ·rw[i.str_inv]at r;rw[i'.str_inv]at r';obtain⟨t,rfl⟩:=r;obtain⟨t',rfl⟩:=r';rw[A8];exact EqAt.str_str _ _ _ _
theorem K7 {d d':Dt}{v:V}(sh:sh1 d d'=true)(i:Is X.K H v d)(i':Is X.K H v d'):dEq d d'=true:=by
 cases d<;>cases d'<;>simp[sh1]at sh
 ·have:=i.fI.symm.trans i'.fI;cases this;simp[dEq]
 ·have:=i.int_inv.symm.trans i'.int_inv;cases this;simp[dEq]
 ·have:=i.str_inv.symm.trans i'.str_inv;cases this;simp[dEq]
theorem Eb:∀ {ds es:List Dt} {vs:List V},xM ds es=true->Iss X.K H vs ds->Iss X.K H vs es->jI ds es=true
 | [],[],_,_,_,_=>by simp[jI]
 | [],e::es,_,_,i,j=>by cases i;cases j
 | d::ds,[],_,_,i,j=>by cases j;cases i
 | d::ds,e::es,_,h,i,j=>by
  cases i with
  | cons i1 i2 =>
   cases j with
   | cons j1 j2 =>
    rw[xM,Bool.and_eq_true]at h
    rw[jI,K7 h.1 i1 j1,Eb h.2 i2 j2]
    rfl
theorem xN:∀ {ds es:List Dt},xM ds es=true->∀ {j:Nat} {d e:Dt},ds[j]?=some d->es[j]?=some e->sh1 d e=true
 | [],_,_,j,d,e,h,_=>by simp at h
 | _::_,[],_,j,d,e,_,h=>by simp at h
 | d::ds,e::es,h,0,_,_,h1,h2=>by rw[xM,Bool.and_eq_true]at h;simp at h1 h2;subst h1;subst h2;exact h.1
 | d::ds,e::es,h,j+1,_,_,h1,h2=>by rw[xM,Bool.and_eq_true]at h;exact xN h.2 (by simpa using h1) (by simpa using h2)
theorem sA:∀ {ds es:List Dt},vF ds es=true->∀ {j:Nat} {d e:Dt},ds[j]?=some d->es[j]?=some e->sh2 d e=true
 | [],_,_,j,d,e,h,_=>by simp at h
 | _::_,[],_,j,d,e,_,h=>by simp at h
 | d::ds,e::es,h,0,_,_,h1,h2=>by rw[vF,Bool.and_eq_true]at h;simp at h1 h2;subst h1;subst h2;exact h.1
 | d::ds,e::es,h,j+1,_,_,h1,h2=>by rw[vF,Bool.and_eq_true]at h;exact sA h.2 (by simpa using h1) (by simpa using h2)
theorem vG {A:Around}{ds es:List Dt}{xs ys:List V}{its its':List Value}(is:Iss X.K H xs ds)(js:Iss X.K H ys es)(r:Vals xs its)(r':Vals ys its')
  (h:∀ {j:Nat} {d e:Dt} {v v':V} {u u':Value},ds[j]?=some d->es[j]?=some e->Is X.K H v d->Is X.K H v' e->RelV v u->RelV v' u'->EqAt A s u u' (dEq d e)) :
  ∀ j (h1:j<its.toArray.size) (h2:j<its'.toArray.size),EqAt A s its.toArray[j] its'.toArray[j] (eAt ds es j):=by
 intro j h1 h2
 have l1:=is.length
 have l2:=js.length
 have l3:=r.length
 have l4:=r'.length
 simp only[ax]at h1 h2
 have hd:ds[j]?=some (ds[j]'(by omega)):=by simp[show j<ds.length by omega]
 have he:es[j]?=some (es[j]'(by omega)):=by simp[show j<es.length by omega]
 obtain⟨v,hv,iv⟩:=is.get hd
 obtain⟨v',hv',iv'⟩:=js.get he
 obtain⟨u,hu,ru⟩:=r.get hv
 obtain⟨u',hu',ru'⟩:=r'.get hv'
 have e1:its[j]=u:=by rw[aF h1]at hu;exact ao hu
 have e2:its'[j]=u':=by rw[aF h2]at hu';exact ao hu'
 have e3:eAt ds es j=dEq (ds[j]'(by omega)) (es[j]'(by omega)):=by unfold eAt;rw[hd,he]
 rw[e3]
 simp only[List.getElem_toArray,e1,e2]
 exact h hd he iv iv' ru ru'
theorem sC {ds es:List Dt}{xs ys:List V}{its its':List Value}(is:Iss X.K H xs ds)(js:Iss X.K H ys es)(r:Vals xs its)(r':Vals ys its') :
  ((List.range (min its.toArray.size its'.toArray.size)).all (eAt ds es)&&its.toArray.size==its'.toArray.size)=jI ds es:=by
 rw[<-A6,ax,ax,<-r.length,<-r'.length,is.length,js.length]
theorem Gk {d d':Dt}(sh:sh2 d d'=true)(ht:¬ ∃ ds es,d=.tup ds/\d'=.tup es):sh1 d d'=true:=by
 cases d with
 | tup ds=>cases d' with
  | tup es=>exact(ht ⟨_,_,rfl,rfl⟩).elim
  | _=>exact sh
 | _=>exact sh
theorem A9 {d d':Dt}(sh:sh3 d d'=true)(ht:¬ ∃ ds es,d=.tup ds/\d'=.tup es):sh1 d d'=true:=by
 cases d with
 | tup ds=>cases d' with
  | tup es=>exact(ht ⟨_,_,rfl,rfl⟩).elim
  | _=>exact sh
 | _=>exact sh
theorem Ec {A:Around}(I:Inv X pins σ H s)(hu:A.units<cLine){d d':Dt}{v v':V}{u u':Value}(sh:sh2 d d'=true)(i:Is X.K H v d)(i':Is X.K H v' d')(r:RelV v u)(r':RelV v' u'):EqAt A s u u' (dEq d d'):=by
 by_cases ht:∃ ds es,d=.tup ds/\d'=.tup es
 ·obtain⟨ds,es,rfl,rfl⟩:=ht
  obtain⟨p,xs,rfl,hp,is⟩:=i.bX
  obtain⟨q,ys,rfl,hq,js⟩:=i'.bX
  cases r;cases r'
  have sh:xM ds es=true:=sh
  rw[nH]
  by_cases hpq:p=q
  ·subst hpq
   have:=I.oM hp hq
   subst this
   rw[Eb sh is js]
   exact EqAt.same _
  ·obtain⟨its,rv,t1,_⟩:=I.tuple hp
   obtain⟨its',rv',t2,_⟩:=I.tuple hq
   refine EqAt.of_refs hpq ?_
   have:=RcAt.tuples (A:=A) (s:=s) (l:=p) (b:=q) (items:=its.toArray) (items2:=its'.toArray) (e:=eAt ds es) t1 t2 hu
    (vG is js rv rv' λ h1 h2 i1 i2 r1 r2=>HH (xN sh h1 h2) i1 i2 r1 r2)
   rw[sC is js rv rv']at this
   exact this
 ·have sh:=Gk sh ht
  exact HH sh i i' r r'
noncomputable def gY:Dt->Dt->Option Dt:=λ d d'=>if sh3 d d'=true then some (.bl (dEq d d')) else none
noncomputable def fX:Dt->Dt->Option Dt:=λ d d'=>if sh3 d d'=true then some (.bl (!dEq d d')) else none
theorem Ed {d d' r:Dt}(h:gY d d'=some r):sh3 d d'=true/\r=.bl (dEq d d'):=by
 unfold gY at h
 split at h
 ·cases h;exact⟨by assumption,rfl⟩
 ·cases h
theorem Ee {d d' r:Dt}(h:fX d d'=some r):sh3 d d'=true/\r=.bl (!dEq d d'):=by
 unfold fX at h
 split at h
 ·cases h;exact⟨by assumption,rfl⟩
 ·cases h
theorem A_ {d d':Dt}{v v':V}(sh:sh1 d d'=true)(i:Is X.K H v d)(i':Is X.K H v' d'):ID v v'=true/\decide (v=v')=dEq d d':=by
 cases d with
 | bl b=>cases d' with
  | bl c=>rw[i.fI,i'.fI,Ea];exact⟨rfl,zi⟩
  | _=>cases sh
 | int b=>cases d' with
  | int c=>rw[i.int_inv,i'.int_inv,A7];exact⟨rfl,vf⟩
  | _=>cases sh
 | str b=>cases d' with
  | str c=>rw[i.str_inv,i'.str_inv,A8];exact⟨rfl,vg⟩
  | _=>cases sh
 | _=>cases sh
theorem vH (hu:X.A.units+2<cLine):OpR X (compareOp .Eq) (rD X.K gY):=by
 intro pins s σ H x y v u Q I rx ry ⟨d,d',r,i,i',e,q⟩
 obtain⟨sh,rfl⟩:=Ed e
 by_cases ht:∃ ds es,d=.tup ds/\d'=.tup es
 ·obtain⟨ds,es,rfl,rfl⟩:=ht
  obtain⟨p,xs,rfl,hp,is⟩:=i.bX
  obtain⟨p',ys,rfl,hq,js⟩:=i'.bX
  cases rx;cases ry
  have sh:vF ds es=true:=sh
  obtain⟨its,rv,t1,_⟩:=I.tuple hp
  obtain⟨its',rv',t2,_⟩:=I.tuple hq
  refine eq_tupleAt (e:=eAt ds es) t1 t2 (by omega) (vG is js rv rv' λ h1 h2 i1 i2 r1 r2=>Ec I (by show X.A.units+1<cLine;omega) (sA sh h1 h2) i1 i2 r1 r2) ?_
  rw[sC is js rv rv']
  exact⟨.bl _,H,I,rfl,q _ H (a_.refl H) (by rw[nH];exact .bl _)⟩
 ·have sh:=A9 sh ht
  obtain⟨s1,s2⟩:=A_ sh i i'
  exact KC pins s σ H x y v u Q I rx ry ⟨s1,by rw[s2];exact q _ H (a_.refl H) (.bl _)⟩
theorem qy (hu:X.A.units+2<cLine):OpR X (compareOp .NotEq) (rD X.K fX):=by
 intro pins s σ H x y v u Q I rx ry ⟨d,d',r,i,i',e,q⟩
 obtain⟨sh,rfl⟩:=Ee e
 by_cases ht:∃ ds es,d=.tup ds/\d'=.tup es
 ·obtain⟨ds,es,rfl,rfl⟩:=ht
  obtain⟨p,xs,rfl,hp,is⟩:=i.bX
  obtain⟨p',ys,rfl,hq,js⟩:=i'.bX
  cases rx;cases ry
  have sh:vF ds es=true:=sh
  obtain⟨its,rv,t1,_⟩:=I.tuple hp
  obtain⟨its',rv',t2,_⟩:=I.tuple hq
  have:=RcNeAt.tuples (A:=X.A) (s:=s) (l:=p) (b:=p') (items:=its.toArray) (items2:=its'.toArray) (e:=eAt ds es) t1 t2 (by omega) (vG is js rv rv' λ h1 h2 i1 i2 r1 r2=>Ec I (by show X.A.units+1<cLine;omega) (sA sh h1 h2) i1 i2 r1 r2)
  rw[sC is js rv rv']at this
  exact this X.prog X.w X.xe _ ⟨.bl _,H,I,rfl,q _ H (a_.refl H) (by rw[nH];exact .bl _)⟩
 ·have sh:=A9 sh ht
  obtain⟨s1,s2⟩:=A_ sh i i'
  exact Ht pins s σ H x y v u Q I rx ry ⟨s1,by rw[s2];exact q _ H (a_.refl H) (.bl _)⟩
noncomputable def MJ:Dt->Dt->Option Dt
 | .bl i,.bl j=>some (.bl (i==j))
 | _,_=>none
noncomputable def Ba:Dt->Dt->Option Dt
 | .bl i,.bl j=>some (.bl (i != j))
 | _,_=>none
theorem Cg {x y d:Dt}(h:Ba x y=some d):∃ i j,x=.bl i/\y=.bl j/\d=.bl (i != j):=by
 cases x with
 | bl i=>cases y with
  | bl j=>exact⟨_,_,rfl,rfl,(ao h).symm⟩
  | _=>cases h
 | _=>cases h
theorem Jn:OpR X (compareOp .IsNot) (rD X.K Ba):=by
 intro pins s σ H x y v u Q I rx ry ⟨d,d',r,i,i',e,q⟩
 obtain⟨b,c,rfl,rfl,rfl⟩:=Cg e
 rw[i.fI]at rx;rw[i'.fI]at ry;cases rx;cases ry
 exact isnot_bool ⟨.bl _,H,I,rfl,q _ H (a_.refl H) (.bl _)⟩
noncomputable def tZ:Dt->Option Int
 | .int i=>some i
 | _=>none
noncomputable def d9:List Dt->Option (List Int)
 | []=>some []
 | d::ds=>(tZ d).bind λ i=>(d9 ds).map (i::·)
theorem jJ {d:Dt}{i:Int}(h:tZ d=some i):d=.int i:=by cases d<;>simp[tZ]at h;rw[h]
theorem fA:∀ {ds:List Dt} {l:List Int},d9 ds=some l->ds=l.map .int
 | [],l,h=>by cases h;rfl
 | d::ds,l,h=>by
  obtain⟨i,e1,h⟩:=aQ h
  obtain⟨r,e2,h⟩:=br h
  subst h
  rw[jJ e1,fA e2]
  rfl
@[simp] theorem jK (l:List Int):d9 (l.map .int)=some l:=by
 induction l with
 | nil=>rfl
 | cons i r ih=>show(some i).bind (λ i=>(d9 (r.map .int)).map (i::·))=_;rw[ih];rfl
noncomputable def Ef:Dt->Dt->Option Dt
 | .tup ds,.tup es=>(d9 ds).bind λ ns=>(d9 es).map λ ms=>.bl (HT.lexLt ns ms)
 | _,_=>none
theorem Eg {x y d:Dt}(e:Ef x y=some d):∃ ns ms:List Int,x=.tup (ns.map .int)/\y=.tup (ms.map .int)/\d=.bl (HT.lexLt ns ms):=by
 cases x with
 | tup ds=>cases y with
  | tup es =>
   obtain⟨ns,e1,e⟩:=aQ (show(d9 ds).bind _=_ from e)
   obtain⟨ms,e2,e⟩:=br e
   exact⟨ns,ms,by rw[fA e1],by rw[fA e2],e.symm⟩
  | _=>cases e
 | _=>cases e
theorem K8 (hu:X.A.units<cLine):OpR X (compareOp .Lt) (rD X.K Ef):=opD (IK hu) λ x y H Q dx dy d i1 i2 e q=>by
 obtain⟨ns,ms,rfl,rfl,rfl⟩:=Eg e
 obtain⟨a,xs,rfl,ha,is⟩:=i1.bX
 obtain⟨b,ys,rfl,hb,js⟩:=i2.bX
 rw[is.ints]at ha
 rw[js.ints]at hb
 exact⟨a,b,ns,ms,rfl,rfl,ha,hb,q _ H (a_.refl H) (.bl _)⟩
end
section
variable {X:Cx}{e a b c:Expr}{es:List Expr}{pos:Pos}{pins:List (Addr×Obj)}{σ:St}{H:Hp}{s:Shared}
noncomputable def dIx:Dt->Dt->Option Dt
 | .tup ds,.int i=>atI ds i
 | .lst ds,.int i=>atI ds i
 | _,_=>none
theorem Iss.atI {K:PySem.W.Frag}{xs:List V}{ds:List Dt}{i:Int}{d:Dt}(is:Iss K H xs ds)(h:atI ds i=some d):∃ v,L2.atI xs i=some v/\Is K H v d:=by
 unfold L2.atI at h ⊢
 obtain⟨j,e1,e2⟩:=aQ h
 obtain⟨v,hv,iv⟩:=is.get e2
 exact⟨v,by rw[is.length,e1];exact hv,iv⟩
theorem Gm {d d' r:Dt}(e:dIx d d'=some r):∃ l k,(d=.tup l\/d=.lst l)/\d'=.int k/\L2.atI l k=some r:=by
 cases d with
 | tup l=>cases d' with
  | int k=>exact⟨l,k,.inl rfl,rfl,e⟩
  | _=>cases e
 | lst l=>cases d' with
  | int k=>exact⟨l,k,.inr rfl,rfl,e⟩
  | _=>cases e
 | _=>cases e
theorem MK:IxR X (rD X.K dIx):=by
 intro value slice pins s σ H x y v u Q I rx ry ⟨d,d',r,i,i',e,q⟩ hs
 obtain⟨l,k,hd,rfl,e⟩:=Gm e
 rcases hd with rfl | rfl
 ·obtain⟨p,xs,rfl,hp,is⟩:=i.bX
  obtain⟨w,hw,iw⟩:=is.atI e
  exact oY value slice pins s σ H _ y v u Q I rx ry ⟨p,xs,_,w,rfl,i'.int_inv,hp,hw,q _ H (a_.refl H) iw⟩ hs
 ·obtain⟨p,xs,rfl,hp,is⟩:=i.lst_inv
  obtain⟨w,hw,iw⟩:=is.atI e
  exact gu value slice pins s σ H _ y v u Q I rx ry ⟨p,xs,_,w,rfl,i'.int_inv,SqL.of hp,hw,q _ H (a_.refl H) iw⟩ hs
theorem di {ga gb:DE->Option Dt}(ha:PD X a ga)(hb:PD X b gb)(hs:AL b:=by exact λ _ _=>rfl):PD X (.Subscript a b pos) (bg dIx ga gb):=(iF MK ha hb hs).of vB
noncomputable def xO:Dt->Option Dt
 | .tup (_::ds)=>some (.tup ds)
 | _=>none
theorem Ci {x d:Dt}(e:xO x=some d):∃ d0 ds,x=.tup (d0::ds)/\d=.tup ds:=by
 cases x with
 | tup l=>cases l with
  | nil=>cases e
  | cons d0 ds=>exact⟨_,_,rfl,(ao e).symm⟩
 | _=>cases e
theorem Cj {x:V}{xs:List V}:xi (x::xs) (some 1) none=xs:=by
 unfold xi
 have e1:HT.sIx (x::xs).length 0 (some 1)=1:=by
  have:=HT.AH (x::xs).length 0 1
  rw[show((1:Nat):Int)=1 from rfl]at this
  rw[this]
  simp
 rw[e1,HT.Dp]
 simp
theorem Jo {ga:DE->Option Dt}{j:Nat}{p p2:Pos}(ha:PD X a ga):PD X (.Subscript a (.Slice (some (.Constant (.int 1) j p)) none none p2) pos) (λ δ=>(ga δ).bind xO) :=
 (Ds IJ ha (FV (bA (i:=1))) FU).of λ σ H Q hz1=>by
  obtain⟨δ,d,S,e,q⟩:=hz1
  obtain⟨x,e1,e2⟩:=aQ e
  obtain⟨d0,ds,rfl,rfl⟩:=Ci e2
  refine⟨δ,_,S,e1,λ v H1 s1 i1=>?_⟩
  obtain⟨p,xs,rfl,hp,is⟩:=i1.bX
  cases is with
  | cons i1 i2 =>
   refine⟨1,rfl,p,_,rfl,hp,?_,λ p' hp'=>?_⟩
   ·rintro⟨z,_⟩
    have z:HT.sIx _ 0 (some ((1:Nat):Int))=0:=z
    rw[HT.AH]at z
    simp at z
   ·refine q _ _ (s1.trans (a_.upd hp')) (.tup (SqT.of aU) ?_)
    rw[Cj]
    exact i2.ext (a_.upd hp')
noncomputable def xP:Dt->Dt->Option Dt
 | .lst ds,.lst es=>if ds.length+es.length<=1000 then some (.lst (ds++es)) else none
 | _,_=>none
theorem Eh {x y d:Dt}(e:xP x y=some d):∃ ds es,x=.lst ds/\y=.lst es/\ds.length+es.length<=1000/\d=.lst (ds++es):=by
 cases x with
 | lst ds=>cases y with
  | lst es =>
   have e:(if ds.length+es.length<=1000 then some (Dt.lst (ds++es)) else none)=some d:=e
   by_cases hl:ds.length+es.length<=1000
   ·rw[ae hl]at e;exact⟨_,_,rfl,rfl,hl,(ao e).symm⟩
   ·rw[af hl]at e;cases e
  | _=>cases e
 | _=>cases e
theorem Ei:OpR X (binaryOp .Add) (rD X.K xP):=opD IQ λ x y H Q dx dy d i1 i2 e q=>by
 obtain⟨ds,es,rfl,rfl,hl,rfl⟩:=Eh e
 obtain⟨a,xs,rfl,ha,is⟩:=i1.lst_inv
 obtain⟨b,ys,rfl,hb,js⟩:=i2.lst_inv
 exact⟨a,b,xs,ys,rfl,rfl,ha,hb,nD (by rw[is.length,js.length];exact hl),λ p hp=>q _ _ (a_.upd hp) (.lst aU ((is.append js).ext (a_.upd hp)))⟩
noncomputable def Gn:Dt->Dt->Option Dt
 | .lst [d],.int k=>if 0<=k/\k<=1000 then some (.lst (List.replicate k.toNat d)) else none
 | _,_=>none
theorem xQ {α:Type}(x:α):∀ n,(List.replicate n [x]).flatten=List.replicate n x
 | 0=>rfl
 | n+1=>by rw[List.replicate_succ,List.flatten_cons,xQ x n];rfl
theorem Iss.rep {K:PySem.W.Frag}{v:V}{d:Dt}(h:Is K H v d):∀ n,Iss K H (List.replicate n v) (List.replicate n d)
 | 0=>.nil
 | n+1=>.cons h (Iss.rep h n)
theorem Ej {x y d:Dt}(e:Gn x y=some d):∃ d0 k,x=.lst [d0]/\y=.int k/\(0<=k/\k<=1000)/\d=.lst (List.replicate k.toNat d0):=by
 cases x with
 | lst ds=>cases ds with
  | nil=>cases e
  | cons d0 r=>cases r with
   | cons _ _=>cases e
   | nil=>cases y with
    | int k =>
     have e:(if 0<=k/\k<=1000 then some (Dt.lst (List.replicate k.toNat d0)) else none)=some d:=e
     by_cases hk:0<=k/\k<=1000
     ·rw[ae hk]at e;exact⟨_,_,rfl,rfl,hk,(ao e).symm⟩
     ·rw[af hk]at e;cases e
    | _=>cases e
 | _=>cases e
theorem K9:OpR X (binaryOp .Mult) (rD X.K Gn):=opD Dw λ x y H Q dx dy d i1 i2 e q=>by
 obtain⟨d0,k,rfl,rfl,hk,rfl⟩:=Ej e
 obtain⟨a,xs,rfl,ha,is⟩:=i1.lst_inv
 cases is with
 | cons j1 j2 =>
  cases j2
  refine⟨a,k,_,rfl,i2.int_inv,ha,by omega,by omega,nD (by simp;omega),λ p hp=>q _ _ (a_.upd hp) (.lst aU ?_)⟩
  rw[xQ]
  exact(Iss.rep j1 _).ext (a_.upd hp)
theorem Iss.one {K:PySem.W.Frag}{xs:List V}{d:Dt}(h:Iss K H xs [d]):∃ v,xs=[v]/\Is K H v d:=by
 cases h with
 | cons h1 h2=>cases h2;exact⟨_,rfl,h1⟩
theorem Iss.two {K:PySem.W.Frag}{xs:List V}{d d':Dt}(h:Iss K H xs [d,d']):∃ v v',xs=[v,v']/\Is K H v d/\Is K H v' d':=by
 cases h with
 | cons h1 h2=>obtain⟨v',rfl,h3⟩:=h2.one;exact⟨_,_,rfl,h1,h3⟩
noncomputable def mq (F:Dt->Option Dt):List Dt->Option Dt
 | [x]=>F x
 | _=>none
@[simp] theorem nI (F:Dt->Option Dt) (x:Dt):mq F [x]=F x:=rfl
theorem dE {F:Dt->Option Dt}{ds:List Dt}{d:Dt}(e:mq F ds=some d):∃ x,ds=[x]/\F x=some d:=by
 cases ds with
 | nil=>cases e
 | cons x r=>cases r with
  | nil=>exact⟨x,rfl,e⟩
  | cons _ _=>cases e
noncomputable def nJ (F:Dt->Dt->Option Dt):List Dt->Option Dt
 | [x,y]=>F x y
 | _=>none
@[simp] theorem xR (F:Dt->Dt->Option Dt) (x y:Dt):nJ F [x,y]=F x y:=rfl
theorem fL {F:Dt->Dt->Option Dt}{ds:List Dt}{d:Dt}(e:nJ F ds=some d):∃ x y,ds=[x,y]/\F x y=some d:=by
 cases ds with
 | nil=>cases e
 | cons x r=>cases r with
  | nil=>cases e
  | cons y z=>cases z with
   | nil=>exact⟨x,y,rfl,e⟩
   | cons _ _=>cases e
noncomputable def zU:Dt->Option (List Dt)
 | .tup ds=>some ds
 | .lst ds=>some ds
 | _=>none
theorem nK {x:Dt}{l:List Dt}(e:zU x=some l):x=.tup l\/x=.lst l:=by
 cases x with
 | tup ds=>exact .inl (by rw[ao e])
 | lst ds=>exact .inr (by rw[ao e])
 | _=>cases e
noncomputable def iI:List Dt->Option Dt:=mq λ x=>(zU x).map λ ds=>.int ds.length
theorem kG:cG X (.builtin "len") (cD X.K iI):=sy hE λ xs H Q ds d is e q=>by
 obtain⟨x,rfl,e⟩:=dE e
 obtain⟨l,e0,rfl⟩:=br e
 obtain⟨v,rfl,i⟩:=is.one
 rcases nK e0 with rfl | rfl
 ·obtain⟨a,ys,rfl,ha,js⟩:=i.bX
  exact⟨a,ys,rfl,.inr ha,by rw[js.length];exact q _ H (a_.refl H) (.int _)⟩
 ·obtain⟨a,ys,rfl,ha,js⟩:=i.lst_inv
  exact⟨a,ys,rfl,.inl (SqL.of ha),by rw[js.length];exact q _ H (a_.refl H) (.int _)⟩
noncomputable def xS:Dt->Option (List Dt)
 | .tup ds=>some ds
 | _=>none
theorem lq {x:Dt}{l:List Dt}(e:xS x=some l):x=.tup l:=by
 cases x with
 | tup ds=>rw[ao e]
 | _=>cases e
noncomputable def pr2:List Dt->Option (Int×Int)
 | [x,y]=>(tZ x).bind λ a=>(tZ y).map λ b=>(a,b)
 | _=>none
theorem lR {l:List Dt}{t:Int×Int}(e:pr2 l=some t):l=[.int t.1,.int t.2]:=by
 cases l with
 | nil=>cases e
 | cons x r=>cases r with
  | nil=>cases e
  | cons y z=>cases z with
   | cons _ _=>cases e
   | nil =>
    obtain⟨a,e1,e2⟩:=aQ (show(tZ x).bind _=_ from e)
    obtain⟨b,e3,e4⟩:=br e2
    rw[jJ e1,jJ e3,<-e4]
@[simp] theorem Ma (a b:Int):pr2 [.int a,.int b]=some (a,b):=rfl
noncomputable def dPr (d:Dt):Option (Int×Int):=(xS d).bind pr2
theorem Bb {d:Dt}{t:Int×Int}(e:dPr d=some t):d=.tup [.int t.1,.int t.2]:=by
 obtain⟨l,e1,e2⟩:=aQ e
 rw[lq e1,lR e2]
@[simp] theorem Mb (a b:Int):dPr (.tup [.int a,.int b])=some (a,b):=rfl
noncomputable def Jp:Dt->Option (List (Int×Int))
 | .dct ds=>some ds
 | _=>none
theorem xT {x:Dt}{l:List (Int×Int)}(e:Jp x=some l):x=.dct l:=by
 cases x with
 | dct ds=>rw[ao e]
 | _=>cases e
noncomputable def Ek:List Dt->Option Dt:=mq λ x=>(Jp x).map λ ds=>.int ds.length
theorem Cm:cG X (.builtin "len") (λ xs H Q=>∃ a kvs,xs=[V.ref a]/\Rd H a (.dK kvs)/\Q (.int kvs.length) H):=by
 intro pins s σ H xs us Q I r h
 obtain⟨a,kvs,rfl,ha,q⟩:=h
 obtain⟨u,rfl,ru⟩:=vals1 r
 cases ru
 exact KP I ha λ t s' I'=>⟨.int kvs.length,H,I',⟨t,rfl⟩,q⟩
theorem Jq:cG X (.builtin "len") (cD X.K Ek):=sy Cm λ xs H Q ds d is e q=>by
 obtain⟨x,rfl,e1⟩:=dE e
 obtain⟨l,e2,rfl⟩:=br e1
 obtain rfl:=xT e2
 obtain⟨v,rfl,i⟩:=is.one
 obtain⟨a,rfl,ha⟩:=i.i8
 exact⟨a,_,rfl,ha,by rw[kvD,ah];exact q _ H (a_.refl H) (.int _)⟩
noncomputable def K_:List Dt->Option Dt:=mq λ x=>(tZ x).map λ i=>.int (if i<0 then -i else i)
@[simp] theorem Mc (i:Int):K_ [.int i]=some (.int (if i<0 then -i else i)):=rfl
theorem Bc:cG X (.builtin "abs") (cD X.K K_):=sy Dl λ xs H Q ds d is e q=>by
 obtain⟨x,rfl,e1⟩:=dE e
 obtain⟨l,e2,rfl⟩:=br e1
 obtain rfl:=jJ e2
 obtain⟨v,rfl,i⟩:=is.one
 exact⟨_,by rw[i.int_inv],q _ H (a_.refl H) (.int _)⟩
noncomputable def xU (l:List Dt):Option Dt:=(pr2 l).map λ t=>.int (if t.2<t.1 then t.2 else t.1)
noncomputable def xV (l:List Dt):Option Dt:=(pr2 l).map λ t=>.int (if t.2>t.1 then t.2 else t.1)
theorem El (hc:X.calm=true):cG X (.builtin "min") (cD X.K xU):=sy (oV hc) λ xs H Q ds d is e q=>by
 obtain⟨l,e1,rfl⟩:=br e
 obtain rfl:=lR e1
 obtain⟨v,v',rfl,i1,i2⟩:=is.two
 exact⟨_,_,by rw[i1.int_inv,i2.int_inv],q _ H (a_.refl H) (.int _)⟩
theorem Em (hc:X.calm=true):cG X (.builtin "max") (cD X.K xV):=sy (oU hc) λ xs H Q ds d is e q=>by
 obtain⟨l,e1,rfl⟩:=br e
 obtain rfl:=lR e1
 obtain⟨v,v',rfl,i1,i2⟩:=is.two
 exact⟨_,_,by rw[i1.int_inv,i2.int_inv],q _ H (a_.refl H) (.int _)⟩
noncomputable def jv:List Dt->Option Dt:=mq λ x=>(zU x).map .tup
theorem lS:cG X (.type "tuple") (cD X.K jv):=sy mv λ xs H Q ds d is e q=>by
 obtain⟨x,rfl,e⟩:=dE e
 obtain⟨l,e0,rfl⟩:=br e
 obtain⟨v,rfl,i⟩:=is.one
 rcases nK e0 with rfl | rfl
 ·obtain⟨a,ys,rfl,ha,js⟩:=i.bX
  exact⟨a,ys,rfl,.inr ⟨ha,q _ H (a_.refl H) (.tup ha js)⟩⟩
 ·obtain⟨a,ys,rfl,ha,js⟩:=i.lst_inv
  exact⟨a,ys,rfl,.inl ⟨SqL.of ha,λ p hp=>q _ _ (a_.upd hp) (.tup (SqT.of aU) (js.ext (a_.upd hp)))⟩⟩
noncomputable def tyD:Dt->Option String
 | .ty T=>some T
 | _=>none
theorem Gp {x:Dt}{T:String}(e:tyD x=some T):x=.ty T:=by
 cases x with
 | ty T=>rw[ao e]
 | _=>cases e
noncomputable def Gq:Dt->String->Option Dt
 | .int _,T=>if T="int" then some (.bl true) else if T="bool"\/T="tuple"\/T="str" then some (.bl false) else none
 | .bl _,T=>if T="int"\/T="bool" then some (.bl true) else if T="tuple" then some (.bl false) else none
 | .tup _,T=>if T="tuple" then some (.bl true) else if T="int"\/T="bool" then some (.bl false) else none
 | .str _,T=>if T="str" then some (.bl true) else if T="int"\/T="tuple" then some (.bl false) else none
 | _,_=>none
noncomputable def Jr (x y:Dt):Option Dt:=(tyD y).bind (Gq x)
@[simp] theorem Bd (x:Dt) (T:String):Jr x (.ty T)=Gq x T:=rfl
noncomputable def pB:List Dt->Option Dt:=nJ Jr
theorem Gr {p r:Prop}[Decidable p][Decidable r]{d:Dt}{b c:Bool}(e:(if p then some (Dt.bl b) else if r then some (.bl c) else none)=some d):(p/\d=.bl b)\/(r/\d=.bl c):=by
 by_cases hp:p
 ·rw[ae hp]at e;exact .inl ⟨hp,(ao e).symm⟩
 ·by_cases hr:r
  ·rw[af hp,ae hr]at e;exact .inr ⟨hr,(ao e).symm⟩
  ·rw[af hp,af hr]at e;cases e
theorem Gs {x y d:Dt}(e:Jr x y=some d):∃ T,y=.ty T/\((∃ n,x=.int n/\((T="int"/\d=.bl true)\/((T="bool"\/T="tuple"\/T="str")/\d=.bl false)))\/(∃ n,x=.bl n/\(((T="int"\/T="bool")/\d=.bl true)\/(T="tuple"/\d=.bl false))) \/
  (∃ n,x=.tup n/\((T="tuple"/\d=.bl true)\/((T="int"\/T="bool")/\d=.bl false)))\/(∃ n,x=.str n/\((T="str"/\d=.bl true)\/((T="int"\/T="tuple")/\d=.bl false)))):=by
 obtain⟨T,e1,e⟩:=aQ e
 refine⟨T,Gp e1,?_⟩
 cases x with
 | int n=>exact .inl ⟨n,rfl,Gr e⟩
 | bl n=>exact .inr (.inl ⟨n,rfl,Gr e⟩)
 | tup n=>exact .inr (.inr (.inl ⟨n,rfl,Gr e⟩))
 | str n=>exact .inr (.inr (.inr ⟨n,rfl,Gr e⟩))
 | _=>cases e
theorem sD:cG X (.builtin "isinstance") (cD X.K pB):=by
 intro pins s σ H xs us Q I rs hz
 obtain⟨ds,d,is,e,q⟩:=hz
 obtain⟨x,y,rfl,e3⟩:=fL e
 obtain⟨T,rfl,e1⟩:=Gs e3
 clear e e3
 obtain⟨v,v',rfl,i1,i2⟩:=is.two
 rw[i2.Jb]at rs
 have q (b:Bool) (hb:d=.bl b) (s':Shared) (I':Inv X pins σ H s'):∃ v H',Inv X pins σ H' s'/\RelV v (.bool b)/\Q v H':=⟨.bl b,H,I',rfl,q _ H (a_.refl H) (by rw[hb];exact .bl _)⟩
 obtain⟨u,u',rfl,r1,r2⟩:=vals2 rs
 cases r2
 rcases e1 with⟨n,rfl,e1⟩ | ⟨n,rfl,e1⟩ | ⟨n,rfl,e1⟩ | ⟨n,rfl,e1⟩
 ·rw[i1.int_inv]at r1
  obtain⟨t,rfl⟩:=r1
  rcases e1 with⟨rfl,e2⟩ | ⟨rfl | rfl | rfl,e2⟩
  ·exact IsiPair.int_int (q _ e2 _ I)
  ·exact IsiPair.int_bool (q _ e2 _ (I.tok _))
  ·exact IsiPair.int_tuple (q _ e2 _ (I.tok _))
  ·exact IsiPair.int_str (q _ e2 _ (I.tok _))
 ·rw[i1.fI]at r1
  cases r1
  rcases e1 with⟨rfl | rfl,e2⟩ | ⟨rfl,e2⟩
  ·exact IsiPair.bool_int (q _ e2 _ I)
  ·exact IsiPair.bool_bool (q _ e2 _ I)
  ·exact IsiPair.bool_tuple (q _ e2 _ (I.tok _))
 ·obtain⟨a,ys,rfl,ha,js⟩:=i1.bX
  cases r1
  obtain⟨its,_,⟨o,ho,hc,_⟩,_⟩:=I.tuple ha
  rcases e1 with⟨rfl,e2⟩ | ⟨rfl | rfl,e2⟩
  ·exact IsiPair.tuple_tuple ho hc (q _ e2 _ I)
  ·exact IsiPair.tuple_int ho hc (q _ e2 _ (I.tok _))
  ·exact IsiPair.tuple_bool ho hc (q _ e2 _ (I.tok _))
 ·rw[i1.str_inv]at r1
  obtain⟨t,rfl⟩:=r1
  rcases e1 with⟨rfl,e2⟩ | ⟨rfl | rfl,e2⟩
  ·exact IsiPair.str_str (q _ e2 _ I)
  ·exact IsiPair.str_int (q _ e2 _ (I.tok _))
  ·exact IsiPair.str_tuple (q _ e2 _ (I.tok _))
noncomputable def Cn:List Dt->Option (List Bool)
 | []=>some []
 | d::ds=>(asB d).bind λ i=>(Cn ds).map (i::·)
theorem xW:∀ {ds:List Dt} {l:List Bool},Cn ds=some l->ds=l.map .bl
 | [],l,h=>by cases h;rfl
 | d::ds,l,h=>by
  obtain⟨i,e1,h⟩:=aQ h
  obtain⟨r,e2,h⟩:=br h
  subst h
  rw[vC e1,xW e2]
  rfl
@[simp] theorem xX (l:List Bool):Cn (l.map .bl)=some l:=by
 induction l with
 | nil=>rfl
 | cons i r ih=>show(some i).bind (λ i=>(Cn (r.map .bl)).map (i::·))=_;rw[ih];rfl
noncomputable def Eo:Dt->Option (List Dt)
 | .lst ds=>some ds
 | _=>none
theorem xY {x:Dt}{l:List Dt}(e:Eo x=some l):x=.lst l:=by
 cases x with
 | lst ds=>rw[ao e]
 | _=>cases e
noncomputable def Co:List Dt->Option Dt:=mq λ x=>(Eo x).bind λ ds=>(Cn ds).map λ l=>.bl (l.all id)
theorem Gu {K:PySem.W.Frag}{xs:List V}{l:List Bool}(h:Iss K H xs (l.map .bl)):xs=l.map V.bl:=by
 induction l generalizing xs with
 | nil=>cases h;rfl
 | cons b r ih=>cases h with | cons h1 h2=>rw[h1.fI,ih h2];rfl
theorem xZ:∀ {l:List Bool} {its:List Value},Vals (l.map V.bl) its->its=l.map Value.bool
 | [],_,.nil=>rfl
 | b::r,_,.cons h t=>by cases h;rw[xZ t];rfl
theorem t4 (l:List Bool):(List.range l.length).all (λ i=>l.getD i true)=l.all id:=by
 rw[Bool.eq_iff_iff]
 simp only[List.all_eq_true,ay,id]
 constructor
 ·intro h x hx
  obtain⟨i,hi,rfl⟩:=List.getElem_of_mem hx
  have:=h i hi
  rw[aD,aF hi]at this
  exact this
 ·intro h i hi
  rw[aD,aF hi]
  exact h _ (List.getElem_mem hi)
theorem Cp {prog:Program}{w:World}{A:Around}{E:Value->Shared->Prop}{l:Addr}{arr:Array Value}{Q:Value->Shared->Prop}(hl:s.heap.IsList l arr)
  (h:∀ s2:Shared,s2={s with heap:=s.heap.push {cls:=.type "list_iterator",data:=.fields #[.ref l,.int 0 0]}}->s2.heap.IsListIter s.heap.objs.size l 0->s2.heap.IsList l arr->l≠s.heap.objs.size->(∀ b∈[s.heap.objs.size,l],b<s2.heap.objs.size)->Q (.ref s.heap.objs.size) s2) :
  wpAny (model prog w) A (pyIter (.ref l)) Q E s:=by
 have hlt:l<s.heap.objs.size:=by obtain⟨_,e,_⟩:=hl;exact au e
 refine wpAny_pyIter_list hl (h _ rfl ⟨_,aG _ rfl,rfl,rfl⟩ (hl.push _) (Nat.ne_of_lt hlt) λ b hb=>?_)
 simp only[Heap.size_push]
 simp only[ar,List.not_mem_nil,or_false]at hb
 rcases hb with rfl | rfl
 ·exact Nat.lt_succ_self _
 ·exact Nat.lt_succ_of_lt hlt
theorem Gv {h':Heap}{o:Obj}(hk:∀ b u,b∉[s.heap.objs.size]->(s.heap.push o).get? b=some u->h'.get? b=some u):∀ b u,s.heap.get? b=some u->h'.get? b=some u:=λ b u e =>
 hk b u (λ hm=>absurd (au e) (by rw[List.mem_singleton.mp hm];exact Nat.lt_irrefl _)) (aC _ e)
theorem Ep (hc:X.calm=true):cG X (.builtin "all") (cD X.K Co):=by
 intro pins s σ H xs us Q I rs ⟨ds,d,is,e,q⟩
 obtain⟨x,rfl,e2⟩:=dE e
 obtain⟨l,e0,e3⟩:=aQ e2
 obtain rfl:=xY e0
 clear e e2 e0
 ·obtain⟨bs,e1,e⟩:=br e3
  subst e
  have e1:=xW e1
  subst e1
  obtain⟨v,rfl,i⟩:=is.one
  obtain⟨p,ys,rfl,hp,js⟩:=i.lst_inv
  obtain⟨u,rfl,ru⟩:=vals1 rs
  cases ru
  obtain⟨its,rv,pl,_⟩:=I.list (SqL.of hp)
  rw[Gu js]at rv
  have e2:=xZ rv
  subst e2
  refine call_all_walk (Cp pl.isList λ s2 es hi hl ne hfp=>?_)
  refine⟨_,_,_,_,_,_,λ i=>bs.getD i true,rfl,Walks.list (A:=X.A.in1) (I.ok.hd hc) _ p ne _,⟨hi,hl⟩,?_,λ h' tk hk=>?_⟩
  ·intro i v s' Q' E' hv hq
   have hv:(bs.map Value.bool)[i]?=some v:=by simpa using hv
   rw[List.getElem?_map]at hv
   cases hb:bs[i]? with
   | none=>rw[hb]at hv;cases hv
   | some k =>
    rw[hb]at hv
    cases hv
    refine wpAny_truthy_bool ?_
    have hq:Q' (bs.getD i true) s':=hq
    rw[aD,hb]at hq
    exact hq
  ·subst es
   refine⟨.bl (bs.all id),H,I.kept (t':=tk) (Gv hk),?_,q _ H (a_.refl H) (.bl _)⟩
   have:(List.range (bs.map Value.bool).toArray.size).all (λ i=>bs.getD i true)=bs.all id:=by
    rw[ax,ah,t4]
   rw[this]
   rfl
noncomputable def vI (srt:List Int->List Int):List Dt->Option Dt:=mq λ x=>(Eo x).bind λ ds=>if ds.length<64 then (d9 ds).map λ l=>.lst ((srt l).map .int) else none
theorem kH:∀ {us:List Value} {ns:List Int},IntsAre us ns->Vals (ns.map V.int) us:=by
 intro us ns h
 induction h with
 | nil=>exact .nil
 | cons n t _ ih=>exact .cons ⟨t,rfl⟩ ih
theorem Er (srt:List Int->List Int)(hp:∀ l,(srt l).Perm l)(hs:∀ l,(srt l).Pairwise (·<=·)):cG X (.builtin "sorted") (cD X.K (vI srt)):=by
 intro pins s σ H xs us Q I rs ⟨ds,d,is,e,q⟩
 obtain⟨x,rfl,e2⟩:=dE e
 obtain⟨l,e0,e3⟩:=aQ e2
 obtain rfl:=xY e0
 clear e e2 e0
 ·by_cases h64:l.length<64
  ·rw[ae h64]at e3
   obtain⟨bs,e1,e⟩:=br e3
   subst e
   have e1:=fA e1
   subst e1
   obtain⟨v,rfl,i⟩:=is.one
   obtain⟨p,ys,rfl,hp',js⟩:=i.lst_inv
   obtain⟨u,rfl,ru⟩:=vals1 rs
   cases ru
   obtain⟨its,rv,pl,_⟩:=I.list (SqL.of hp')
   rw[js.ints]at rv
   have hlen:its.length=bs.length:=by have:=rv.length;simpa using this.symm
   have h64:bs.length<64:=by simpa using h64
   refine sorted_ints pl.isList (intsAre_of rv) (by omega) λ out ns' ia pe pw=>?_
   obtain⟨ep,he⟩:=sortedAll_at s.heap its out
   have hns:ns'=srt bs:=by
    have p2:=pe.trans (hp bs).symm
    exact p2.eq_of_pairwise (λ a b _ _ h1 h2=>Int.le_antisymm h1 h2) pw (hs bs)
   subst hns
   have hnew:=I.laid (a:=s.heap.objs.size+1) (o:=.lst ((srt bs).map V.int)) (h':=sortedAll s.heap its out) (t':=s.toks) (λ b u e=>sortedAll_old e) (Nat.le_succ _) ⟨by rw[ah,(hp bs).length_eq,sizeLine_eq];omega,out.toList,ep,kH ia,by simpa using he⟩
   exact⟨.ref (s.heap.objs.size+1),_,hnew,rfl,q _ _ (a_.upd (I.hok.fresh (Nat.le_succ _))) (.lst aU (Iss.vA _))⟩
  ·rw[af h64]at e3;cases e3
end
end L2
namespace L2
open PySem PySem.Spec PyProof.Rows Zp
section
variable {X:Cx}{e a b c:Expr}{es:List Expr}{pos:Pos}{tg:Expr}
theorem du {scope:Scope}{own fr:List Str}{ix:List Nat}(h1:scope.kind=.function:=by rfl)(h2:(scope.names.all λ x=>x.2 != .local || scope.names.lookup x.1==some .local)=true:=by rfl)
  (h3:(scope.names.all λ x=>x.2 != .cell)=true:=by rfl) (h4:(scope.names.all λ x=>x.2 != .free || (X.env.kindOf x.1==some .cell || X.env.kindOf x.1==some .free))=true:=by rfl)
  (h5:(own.all λ x=>scope.names.lookup x==some .local)=true:=by rfl) (h6:(fr.all λ x=>scope.names.lookup x==some .free)=true:=by rfl) (h7:ix.map (λ i=>X.N[i]?)=fr.map some:=by rfl) (h8:(own++fr).Nodup:=by decide +kernel):fZ X scope own fr ix:=by
 simp only[List.all_eq_true,Bool.or_eq_true,bne_iff_ne,beq_iff_eq]at h2 h3 h4 h5 h6
 refine⟨h1,λ x hx e=>?_,λ x hx=>h3 x hx,λ x hx e=>?_,h5,h6,h7,h8⟩
 ·rcases h2 x hx with z | z
  ·exact absurd e z
  ·exact z
 ·rcases h4 x hx with z | z
  ·exact absurd e z
  ·exact z
noncomputable def d_:Dt->Option (List Dt)
 | .tup ds=>some ds
 | .lst ds=>some ds
 | _=>none
theorem gZ {g:DE->Option Dt}(h:PD X e g):PI X tg e (iD X.K (gI d_ g)):=λ pins s σ H R I hz1=>by
 obtain⟨δ,ds,S,q,k⟩:=hz1
 obtain⟨x,e1,e2⟩:=aQ q
 cases x<;>simp[d_]at e2
 ·subst e2
  exact Jf h pins s σ H R I ⟨δ,_,S,by unfold gI;rw[e1];rfl,k⟩
 ·subst e2
  exact Jg h pins s σ H R I ⟨δ,_,S,by unfold gI;rw[e1];rfl,k⟩
noncomputable def lu (gs:DE->Option (List Dt)):DE->Option (List Dt):=λ δ=>(gs δ).bind pz
noncomputable def La (gs:DE->Option (List Dt)):DE->Option (List Dt):=λ δ=>(gs δ).bind K4
noncomputable def Gw (t1 t2:Bool)(gs:DE->Option (List Dt)):DE->Option (List Dt):=λ δ=>(gs δ).bind (D6 t1 t2)
noncomputable def Es (g:DE->Option Dt):DE->Option Dt:=λ δ=>(g δ).bind xO
theorem jY {gs:DE->Option (List Dt)}{p:Pos}(hm:X.mg "range"=none)(ha:PDs X [a] gs)(hg:Gl X "range":=by rfl)(hs:starEach [a] X.env=[(false,eval a X.env)]:=by rfl):PI X tg (.Call (.Name "range" p) [a] [] pos) (iD X.K (lu gs)):=Ce hm ha hg hs
theorem HI {gs:DE->Option (List Dt)}{elts:List Expr}{kk:Nat}{ps p:Pos}(t1 t2:Bool)(hm:X.mg "zip"=none)(ha:PDs X [a,b] gs)(hg:Gl X "zip":=by rfl)(hs:starEach [a,b] X.env=[(false,eval a X.env),(false,eval b X.env)]:=by rfl)(hs2:starEach [b] X.env=[(false,eval b X.env)]:=by rfl):PI X (.Tuple elts kk ps) (.Call (.Name "zip" p) [a,b] [] pos) (iD X.K (Gw t1 t2 gs)):=Jj t1 t2 hm ha hg hs hs2 boot_zip
theorem ML {ga:DE->Option Dt}{j:Nat}{p p2:Pos}(ha:PD X a ga):PD X (.Subscript a (.Slice (some (.Constant (.int 1) j p)) none none p2) pos) (Es ga):=Jo ha
theorem bq {k:Nat}{A:Around}(hr:fG k A):A.units+2<cLine:=by have:=hr.units;omega
end
noncomputable abbrev Hg (n:Nat)(N:List Str)(f:List Dt->Option Dt)(g:DE->Option RD):Prop:=∀ ds d,ds.length=n->f ds=some d->∃ r,g (gX N ds)=some r/\K6 r=d
noncomputable def srt (l:List Int):List Int:=l.mergeSort (λ a b=>decide (a<=b))
theorem lx (l:List Int):(srt l).Perm l:=List.mergeSort_perm ..
theorem sE (l:List Int):(srt l).Pairwise (·<=·):=by
 have:=List.pairwise_mergeSort (le:=λ a b:Int=>decide (a<=b)) (λ a b c h1 h2=>by simp at *;omega) (λ a b=>by simp;omega) l
 exact this.imp λ h=>by simpa using h
noncomputable def aS (q:Rat):Dt:=.tup [.int q.num,.int q.den]
noncomputable def dQ (d:Dt):Option Rat:=(dPr d).bind λ t=>if 0<t.2/\Int.gcd t.1 t.2=1 then some (Rat.divInt t.1 t.2) else none
theorem mL {a b:Int}(h:0<b)(g:Int.gcd a b=1):(Rat.divInt a b).num=a/\((Rat.divInt a b).den:Int)=b:=by
 obtain⟨n,rfl⟩:∃ n:Nat,b=n:=⟨b.toNat,by omega⟩
 have hn:n≠0:=by omega
 rw[Rat.divInt_ofNat]
 have g':a.natAbs.gcd n=1:=by simpa [Int.gcd] using g
 rw[<-Rat.normalize_eq_mkRat hn,Rat.normalize_eq hn]
 simp[g']
theorem vJ {d:Dt}{q:Rat}(h:dQ d=some q):d=aS q:=by
 obtain⟨t,e,h⟩:=aQ h
 rw[Bb e]
 by_cases hc:0<t.2/\Int.gcd t.1 t.2=1
 ·rw[ae hc]at h
  cases h
  obtain⟨h1,h2⟩:=mL hc.1 hc.2
  unfold aS
  rw[h1,h2]
 ·rw[af hc]at h;cases h
@[simp] theorem mM (q:Rat):dQ (aS q)=some q:=by
 show(if 0<(q.den:Int)/\Int.gcd q.num q.den=1 then some (Rat.divInt q.num q.den) else none)=some q
 have h1:0<q.den:=q.den_pos
 have h2:Int.gcd q.num q.den=1:=by simpa [Int.gcd,Nat.Coprime] using q.reduced
 rw[ae ⟨by omega,h2⟩,Rat.divInt_ofNat,Rat.mkRat_self]
noncomputable def dQs:List Dt->Option (List Rat)
 | []=>some []
 | d::ds=>(dQ d).bind λ i=>(dQs ds).map (i::·)
theorem nL:∀ {ds:List Dt} {l:List Rat},dQs ds=some l->ds=l.map aS
 | [],l,h=>by cases h;rfl
 | d::ds,l,h=>by
  obtain⟨i,e1,h⟩:=aQ h
  obtain⟨r,e2,h⟩:=br h
  subst h
  rw[vJ e1,nL e2]
  rfl
@[simp] theorem vK (l:List Rat):dQs (l.map aS)=some l:=by
 induction l with
 | nil=>rfl
 | cons i r ih=>show(dQ (aS i)).bind (λ i=>(dQs (r.map aS)).map (i::·))=_;rw[ih,mM];rfl
noncomputable def sm (q:Rat):Prop:=q.num.natAbs<2 ^ 1900/\q.den<2 ^ 1900
noncomputable instance (q:Rat):Decidable (sm q):=inferInstanceAs (Decidable (_/\_))
noncomputable abbrev Be:Dt:=.tup [.int 0,.int 1]
theorem HJ:aS 0=Be:=rfl
noncomputable def Et:Dt->Option Dt
 | .int _=>some (.bl true)
 | .bl _=>some (.bl false)
 | .tup _=>some (.bl false)
 | _=>none
noncomputable def eg:List Dt->Option Dt:=mq Et
@[simp] theorem HK (n:Int):eg [.int n]=some (.bl true):=rfl
noncomputable def cL (l:List Dt):Option Dt:=(pr2 l).map λ t=>.int (Int.gcd t.1 t.2)
@[simp] theorem Lb (a b:Int):cL [.int a,.int b]=some (.int (Int.gcd a b)):=rfl
noncomputable def e_:List Dt->Option Dt
 | [x]=>(dQ x).map λ _=>.bl true
 | _=>none
noncomputable def fh:List Dt->Option Dt:=nJ λ x y=>(xS x).bind λ xs=>(tZ y).bind λ n=>(dQs xs).bind λ l=>if l.length<=1000/\(l.length:Int)=n then some (.bl true) else none
noncomputable def cn (l:List Dt):Option Dt:=(pr2 l).bind λ t=>if 0<t.2/\bd t.2 then some (aS (Rat.divInt t.1 t.2)) else none
@[simp] theorem lT (a b:Int):cn [.int a,.int b]=if 0<b/\bd b then some (aS (Rat.divInt a b)) else none:=rfl
theorem x_ {l:List Dt}{d:Dt}(h:cn l=some d):∃ a b:Int,l=[.int a,.int b]/\(0<b/\bd b)/\d=aS (Rat.divInt a b):=by
 obtain⟨t,e,h⟩:=aQ h
 by_cases hc:0<t.2/\bd t.2
 ·rw[ae hc]at h;exact⟨_,_,lR e,hc,(ao h).symm⟩
 ·rw[af hc]at h;cases h
noncomputable def mN:List Dt->Option Dt
 | [x,y]=>(dQ x).bind λ a=>(dQ y).bind λ b=>if sm a/\sm b then some (aS (a+b)) else none
 | _=>none
noncomputable def jZ:List Dt->Option Dt
 | [x,y]=>(dQ x).bind λ a=>(dQ y).bind λ b=>if sm a/\sm b then some (aS (a*b)) else none
 | _=>none
noncomputable def qz:Rat->List Rat->Option Rat
 | a,[]=>some a
 | a,b::r=>if sm a/\sm b then qz (a+b) r else none
noncomputable def nM:List Dt->Option Dt
 | [x]=>(d_ x).bind λ xs=>(dQs xs).bind λ l=>(qz 0 l).map aS
 | _=>none
noncomputable def sF:DE->Option RD:=(cu (tX (bK pB (aK (aN 0) (aK (gC (.ty "int")) aP))) (Jc (bK pB (aK (aN 0) (aK (gC (.ty "bool")) aP))))))
noncomputable abbrev zV:List Str:=["thing"]
noncomputable def jw:DE->Option RD:=(bP (jt (qw (gK (gTr (bK pB (aK (aN 0) (aK (gC (.ty "tuple")) aP))))) (gB (bg fX (bK iI (aK (aN 0) aP)) (gC (.int 2))))) (cu (gC (.bl false))) fy) (bP (qx (fJ 1 2) (aN 0)) (bP (jt (qw (gK (gTr (aT 1 eg (aK (aN 1) aP)))) (gK (gTr (aT 1 eg (aK (aN 2) aP))))) (cu (gC (.bl false))) fy) (cu (tX (bg (dIB λ i j=>decide (j<=i)) (aN 2) (gC (.int 1))) (bg gY (aT 2 cL (aK (aN 1) (aK (aN 2) aP))) (gC (.int 1))))))))
noncomputable abbrev t5:List Str:=["thing","top","bottom"]
noncomputable def g0:DE->Option RD:=(bP (jt (qw (gK (gTr (bK pB (aK (aN 0) (aK (gC (.ty "tuple")) aP))))) (gB (bg fX (bK iI (aK (aN 0) aP)) (aN 1)))) (cu (gC (.bl false))) fy) (cu (bK Co (aK (gLC ["one"] [] (gI d_ (aN 0)) (ggN 0) dB (aT 1 e_ (aK (aN 0) aP))) aP))))
noncomputable abbrev qB:List Str:=["thing","many"]
noncomputable def mO:DE->Option RD:=(bP (dR 2 (aT 2 cL (aK (aN 0) (aK (aN 1) aP)))) (cu (eU (aK (bg Cf (aN 0) (aN 2)) (aK (bg Cf (aN 1) (aN 2)) aP)))))
noncomputable abbrev zW:List Str:=["top","bottom","divisor"]
noncomputable def zX:DE->Option RD:=(cu (aT 2 cn (aK (bg (dI (·+·)) (bg ju (bg dIx (aN 0) (gC (.int 0))) (bg dIx (aN 1) (gC (.int 1)))) (bg ju (bg dIx (aN 1) (gC (.int 0))) (bg dIx (aN 0) (gC (.int 1))))) (aK (bg ju (bg dIx (aN 0) (gC (.int 1))) (bg dIx (aN 1) (gC (.int 1)))) aP))))
noncomputable abbrev Js:List Str:=["one","other"]
noncomputable def vL:DE->Option RD:=(cu (aT 2 cn (aK (bg ju (bg dIx (aN 0) (gC (.int 0))) (bg dIx (aN 1) (gC (.int 0)))) (aK (bg ju (bg dIx (aN 0) (gC (.int 1))) (bg dIx (aN 1) (gC (.int 1)))) aP))))
noncomputable abbrev Gx:List Str:=["one","other"]
noncomputable def vM:DE->Option RD:=(bP (dR 1 (gC Be)) (bP (xJ (gI d_ (aN 0)) (ggN 2) (dR 1 (aT 2 mN (aK (aN 1) (aK (aN 2) aP))))) (cu (aN 1))))
noncomputable abbrev Gy:List Str:=["fractions","whole","one"]
theorem ya:Hg 1 zV eg sF:=by
 intro ds d hl h
 obtain⟨x,rfl,h⟩:=dE h
 cases x with
 | int _=>cases h;exact⟨_,rfl,rfl⟩
 | bl _=>cases h;exact⟨_,rfl,rfl⟩
 | tup _=>cases h;exact⟨_,rfl,rfl⟩
 | _=>cases h
theorem iJ {a b:Int}(h:0<b):(Rat.divInt a b).num=a / (Int.gcd a b:Int)/\((Rat.divInt a b).den:Int)=b / (Int.gcd a b:Int):=by
 obtain⟨n,rfl⟩:∃ n:Nat,b=n:=⟨b.toNat,by omega⟩
 have hn:n≠0:=by omega
 rw[Rat.divInt_ofNat,<-Rat.normalize_eq_mkRat hn,Rat.normalize_eq hn]
 simp[Int.gcd]
theorem sG {a b:Int}(h:0<b):0<(Int.gcd a b:Int)/\(Int.gcd a b:Int)<=b:=by
 have h1:0<Int.gcd a b:=Int.gcd_pos_of_ne_zero_right _ (by omega)
 have h2:(Int.gcd a b:Int) ∣ b:=Int.gcd_dvd_right ..
 exact⟨by omega,Int.le_of_dvd h h2⟩
theorem HL {a b:Int}(h:bd b)(h0:0<=a)(h1:a<=b):bd a:=by
 unfold bd at *
 exact Nat.lt_of_le_of_lt (by omega) h
theorem yb:Hg 2 zW cn mO:=by
 intro ds d hl h
 obtain⟨a,b,rfl,hc,rfl⟩:=x_ h
 ··clear h
   obtain⟨h1,h2⟩:=iJ (a:=a) hc.1
   obtain⟨h3,h4⟩:=sG (a:=a) hc.1
   have h5:0<(Int.gcd a b:Int)/\bd (Int.gcd a b:Int):=⟨h3,HL hc.2 (by omega) h4⟩
   refine⟨.rt (aS (Rat.divInt a b)),?_,rfl⟩
   unfold aS
   rw[h1,h2]
   simp[mO,bP,dR,aT,aK,aN,aP,gX,cL,cu,eU,bg,dIC,h5,show b≠0 by omega]
theorem sH:Hg 1 t5 e_ jw:=by
 intro ds d hl h
 match ds,h with
 | [x],h =>
  obtain⟨q,e,h⟩:=br (show(dQ x).map _=_ from h)
  subst h
  have e:=vJ e
  subst e
  have h1:0<q.den:=q.den_pos
  have h2:Int.gcd q.num q.den=1:=by simpa [Int.gcd,Nat.Coprime] using q.reduced
  refine⟨.rt (.bl true),?_,rfl⟩
  simp[jw,aS,bP,jt,qw,gK,gTr,bK,pB,xR,nI,Bd,Gq,zU,aK,aN,gC,aP,gX,gB,bg,fX,iI,asB,zR,sh3,sh1,dEq,fy,qx,fJ,aT,eg,Et,nI,cu,tX,dIB,gY,cL,h2]
  omega
theorem eh {α:Type}{enc:α->Dt}{gg:Dt->DE->Option DE}{gt:DE->Option Bool}{ge:DE->Option Dt}{δc:DE}{δa:α->DE}{p:α->Bool}{enc':α->Dt}:∀ (l:List α),(∀ a∈l,gg (enc a) δc=some (δa a)/\gt (δa a)=some (p a)/\(p a=true->ge (δa a)=some (enc' a))) ->
  sr gg gt ge δc (l.map enc)=some ((l.filter p).map enc')
 | [],_=>rfl
 | a::r,h=>by
  obtain⟨h1,h2,h3⟩:=h a ai
  have ih:=eh r λ b hb=>h b (ak _ hb)
  rw[List.map_cons,sr,h1,aa,h2,aa,ih]
  cases hp:p a with
  | true=>rw[ae rfl,h3 hp,List.filter_cons_of_pos hp];rfl
  | false=>rw[af aq,List.filter_cons_of_neg (by rw[hp];exact aq)]
theorem cP {α:Type}{enc:α->Dt}{gg:Dt->DE->Option DE}{ge:DE->Option Dt}{δc:DE}{δa:α->DE}{enc':α->Dt}(l:List α)(h:∀ a∈l,gg (enc a) δc=some (δa a)/\ge (δa a)=some (enc' a)) :
  sr gg dB ge δc (l.map enc)=some (l.map enc'):=by
 have:=eh (gt:=dB) (p:=λ _=>true) l λ a ha=>⟨(h a ha).1,rfl,λ _=>(h a ha).2⟩
 rw[this,List.filter_eq_self.mpr λ _ _=>rfl]
theorem Eu {a b:Int}(ha:a.natAbs<2 ^ 1900)(hb:b.natAbs<2 ^ 1900):bd (a*b):=by
 unfold bd
 rw[Int.natAbs_mul]
 calc a.natAbs*b.natAbs<=2 ^ 1900*2 ^ 1900:=Nat.mul_le_mul (Nat.le_of_lt ha) (Nat.le_of_lt hb)
  _=2 ^ 3800:=by rw[<-Nat.pow_add]
  _<2 ^ 4000:=Nat.pow_lt_pow_right (by decide) (by decide)
theorem qg {a:Int}(ha:a.natAbs<2 ^ 1900):bd a:=aB ha (Nat.pow_le_pow_right (by decide) (by decide))
theorem sI (a b:Rat):Rat.divInt (a.num*b.den+b.num*a.den) ((a.den:Int)*b.den)=a+b:=by
 have h:=Rat.divInt_add_divInt a.num b.num (d₁:=a.den) (d₂:=b.den) (by have:=a.den_pos;omega) (by have:=b.den_pos;omega)
 rw[<-h,Rat.divInt_ofNat,Rat.divInt_ofNat,Rat.mkRat_self,Rat.mkRat_self]
theorem sJ (a b:Rat):Rat.divInt (a.num*b.num) ((a.den:Int)*b.den)=a*b:=by
 have h:=Rat.divInt_mul_divInt a.num b.num (d₁:=a.den) (d₂:=b.den)
 rw[<-h,Rat.divInt_ofNat,Rat.divInt_ofNat,Rat.mkRat_self,Rat.mkRat_self]
set_option tactic.hygienic true in
theorem HM {x y:Dt}{d:Dt}{f:Rat->Rat->Rat}(h:((dQ x).bind λ a=>(dQ y).bind λ b=>if sm a/\sm b then some (aS (f a b)) else none)=some d):∃ a b,x=aS a/\y=aS b/\sm a/\sm b/\d=aS (f a b):=by
 obtain⟨a,e1,h⟩:=aQ h
 obtain⟨b,e2,h⟩:=aQ h
 split at h
 ·rename_i hc
  cases h
  exact⟨a,b,vJ e1,vJ e2,hc.1,hc.2,rfl⟩
 ·cases h
theorem Lc {α:Type}(x y:α):atI [x,y] 0=some x:=rfl
theorem Ld {α:Type}(x y:α):atI [x,y] 1=some y:=rfl
theorem Bf:Hg 2 Js mN zX:=by
 intro ds d hl h
 match ds,h with
 | [x,y],h =>
  obtain⟨a,b,rfl,rfl,ha,hb,rfl⟩:=HM (f:=(·+·)) h
  have h1:0<((a.den:Int)*b.den):=Int.mul_pos (by have:=a.den_pos;omega) (by have:=b.den_pos;omega)
  have h2:bd ((a.den:Int)*b.den):=Eu (by simpa using ha.2) (by simpa using hb.2)
  have a1:=qg ha.1
  have b1:=qg hb.1
  have a2:bd (a.den:Int):=qg (by simpa using ha.2)
  have b2:bd (b.den:Int):=qg (by simpa using hb.2)
  refine⟨.rt (aS (a+b)),?_,rfl⟩
  rw[<-sI]
  simp only[zX,aS,cu,aT,aK,bg,aN,gC,aP,gX,List.map_cons,List.map_nil,List.length_cons,List.length_nil,List.cons_append,List.getElem?_cons_zero,List.getElem?_cons_succ,Option.join_some,aa,dIx,Lc,Ld,dIC,dI,a1,b1,a2,b2,and_self,if_true,Option.map_some,lT,h1,h2]
theorem yc:Hg 2 Gx jZ vL:=by
 intro ds d hl h
 match ds,h with
 | [x,y],h =>
  obtain⟨a,b,rfl,rfl,ha,hb,rfl⟩:=HM (f:=(·*·)) h
  have h1:0<((a.den:Int)*b.den):=Int.mul_pos (by have:=a.den_pos;omega) (by have:=b.den_pos;omega)
  have h2:bd ((a.den:Int)*b.den):=Eu (by simpa using ha.2) (by simpa using hb.2)
  have a1:=qg ha.1
  have b1:=qg hb.1
  have a2:bd (a.den:Int):=qg (by simpa using ha.2)
  have b2:bd (b.den:Int):=qg (by simpa using hb.2)
  refine⟨.rt (aS (a*b)),?_,rfl⟩
  rw[<-sJ]
  simp only[vL,aS,cu,aT,aK,bg,aN,gC,aP,gX,List.map_cons,List.map_nil,List.length_cons,List.length_nil,List.cons_append,List.getElem?_cons_zero,List.getElem?_cons_succ,Option.join_some,aa,dIx,Lc,Ld,dIC,dI,a1,b1,a2,b2,and_self,if_true,Option.map_some,lT,h1,h2]
set_option tactic.hygienic true in
theorem mP (x:Dt):∀ (l:List Rat) (a b:Rat) (o:Option Dt),qz a l=some b->∃ o',mC (ggN 2) (dR 1 (aT 2 mN (aK (aN 1) (aK (aN 2) aP)))) [some x,some (aS a),o] (l.map aS)=some (.nx [some x,some (aS b),o'])
 | [],a,b,o,h=>by cases h;exact⟨o,rfl⟩
 | c::r,a,b,o,h=>by
  have h:(if sm a/\sm c then qz (a+c) r else none)=some b:=h
  split at h
  ·rename_i hc
   obtain⟨o',ih⟩:=mP x r (a+c) b (some (aS c)) h
   refine⟨o',?_⟩
   rw[<-ih]
   simp only[List.map_cons,mC,ggN,aa,dR,aT,aK,aN,aP,List.set_cons_succ,List.set_cons_zero,List.getElem?_cons_succ,List.getElem?_cons_zero,Option.join_some,Option.map_some,List.length_cons,List.length_nil,if_true,mN,mM,hc,and_self]
  ·cases h
theorem Ew:Hg 1 Gy nM vM:=by
 intro ds d hl h
 match ds,h with
 | [x],h =>
  obtain⟨xs,e1,h⟩:=aQ (show(d_ x).bind _=_ from h)
  obtain⟨l,e2,h⟩:=aQ h
  obtain⟨b,e3,h⟩:=br h
  subst h
  have e2:=nL e2
  subst e2
  obtain⟨o',e4⟩:=mP x l 0 b none e3
  refine⟨.rt (aS b),?_,rfl⟩
  simp only[vM,bP,dR,gC,Option.map_some,aa,gX,List.map_cons,List.map_nil,List.length_cons,List.length_nil,List.cons_append,xJ,gI,aN,List.replicate,List.set_cons_succ,List.set_cons_zero,List.getElem?_cons_succ,List.getElem?_cons_zero,Option.join_some,e1,cu,List.nil_append]
  rw[HJ]at e4
  simp only[e4,List.getElem?_cons_succ,List.getElem?_cons_zero,Option.join_some,aa,Option.map_some]
theorem pC:Hg 2 qB fh g0:=by
 intro ds d hl h
 obtain⟨x,y,rfl,h1⟩:=fL h
 obtain⟨xs,e3,h2⟩:=aQ h1
 obtain⟨n,e4,h3⟩:=aQ h2
 obtain⟨l,e1,h4⟩:=aQ h3
 obtain rfl:=lq e3
 obtain rfl:=jJ e4
 clear h h1 h2 h3 e3 e4
 ·by_cases hc:l.length<=1000/\(l.length:Int)=n
  ·rw[ae hc]at h4
   cases h4
   have e1:=nL e1
   subst e1
   refine⟨.rt (.bl true),?_,rfl⟩
   have lc:=cP (enc:=aS) (gg:=ggN 0) (ge:=aT 1 e_ (aK (aN 0) aP)) (δc:=[none]) (δa:=λ q=>[some (aS q)]) (enc':=λ _=>.bl true) l λ a _=>⟨rfl,by
    simp[aT,aK,aN,aP,e_]⟩
   have e3:(l.map λ _=>Dt.bl true)=(l.map λ _=>true).map Dt.bl:=by simp
   rw[e3]at lc
   have e4:(l.map λ _=>true).all id=true:=by simp
   simp only[g0,bP,jt,qw,gK,gTr,bK,pB,xR,nI,Bd,Gq,zU,aK,aN,gC,aP,gX,gB,bg,fX,iI,asB,zR,sh3,sh1,dEq,fy,List.map_cons,List.map_nil,List.length_cons,List.length_nil,List.cons_append,List.getElem?_cons_zero,List.getElem?_cons_succ,Option.join_some,aa,Option.map_some,if_true,Bool.not_true,Bool.false_eq_true,if_false,ah,hc.2,beq_self_eq_true,cu,gLC,gI,d_,mB,List.append_nil,hc.1]
   simp only[gLC,gI,d_,mB,lc,Option.map_some,Co,nI,Eo,xX,e4,ah,aa,List.map_nil,List.append_nil]
  ·rw[af hc]at h4;cases h4
end L2
namespace L2
section
variable (δ:DE)(g g' g2:DE->Option Dt)(r r':DE->Option RD)(gs:DE->Option (List Dt))(t t':DE->Option Bool)(i j:Nat)(f f':Dt->Dt->Option Dt)(h:List Dt->Option Dt)(d:Dt)
@[simp] theorem Le:bP r r' δ=(r δ).bind λ x=>match x with | .nx δ'=>r' δ' | .rt d=>some (.rt d):=rfl
@[simp] theorem Nr:dR i g δ=(g δ).map λ d=>.nx (δ.set i (some d)):=rfl
@[simp] theorem Md:aT i h gs δ=(gs δ).bind λ ds=>if ds.length=i then h ds else none:=rfl
@[simp] theorem MN:bK h gs δ=(gs δ).bind h:=rfl
@[simp] theorem MO:aK g gs δ=(g δ).bind λ x=>(gs δ).map λ r=>x::r:=rfl
@[simp] theorem Me:aP δ=some []:=rfl
@[simp] theorem Nt:aN i δ=(δ[i]?).join:=rfl
@[simp] theorem e_C:gC d δ=some d:=rfl
@[simp] theorem Nu:bg f g g' δ=(g δ).bind λ x=>(g' δ).bind λ y=>f x y:=rfl
@[simp] theorem Nv:cu g δ=(g δ).map .rt:=rfl
@[simp] theorem MP:eZ g δ=(g δ).map λ _=>.nx δ:=rfl
@[simp] theorem MQ:fy δ=some (.nx δ):=rfl
@[simp] theorem Mf:pA δ=none:=rfl
@[simp] theorem Nw:jt t r r' δ=(t δ).bind λ k=>if k=true then r δ else r' δ:=rfl
@[simp] theorem NS:gIf t g g' δ=(t δ).bind λ k=>if k=true then g δ else g' δ:=rfl
@[simp] theorem Nx:qw t t' δ=(t δ).bind λ k=>if k=true then some true else t' δ:=rfl
@[simp] theorem MR:KW t t' δ=(t δ).bind λ k=>if k=true then t' δ else some false:=rfl
@[simp] theorem MS:gK t δ=(t δ).map (!·):=rfl
@[simp] theorem NT:gTr g δ=(g δ).bind zR:=rfl
@[simp] theorem e_B:gB g δ=(g δ).bind asB:=rfl
@[simp] theorem Ny:tX g g' δ=(gB g δ).bind λ k=>if k=true then g' δ else some (.bl false):=rfl
@[simp] theorem NU:gOr g g' δ=(gB g δ).bind λ k=>if k=true then some (.bl true) else g' δ:=rfl
@[simp] theorem Nz:Jc g δ=(gB g δ).map λ k=>.bl (!k):=rfl
@[simp] theorem NA:eU gs δ=(gs δ).bind λ ds=>if ds.length<=1000 then some (.tup ds) else none:=rfl
@[simp] theorem NB:xH gs δ=(gs δ).bind λ ds=>if ds.length<=1000 then some (.lst ds) else none:=rfl
@[simp] theorem Mg:o_ f f' g g' g2 δ=(g δ).bind λ x=>(g' δ).bind λ y=>(f x y).bind λ z=>(asB z).bind λ k=>if k=true then (g2 δ).bind λ w=>f' y w else some (.bl false):=rfl
@[simp] theorem NC (gg:Dt->DE->Option DE):qx gg g δ=(g δ).bind λ d=>(gg d δ).map .nx:=rfl
@[simp] theorem MT (x y:Dt):fJ i j (.tup [x,y]) δ=some ((δ.set i (some x)).set j (some y)):=rfl
@[simp] theorem Lf:ggN i d δ=some (δ.set i (some d)):=rfl
@[simp] theorem ND:K5 i j gs δ=(gs δ).bind λ ds=>match ds with | [x,y]=>some (.nx ((δ.set i (some x)).set j (some y))) | _=>none:=rfl
@[simp] theorem NV (own:List PySem.Str) (ix:List Nat) (gi:DE->Option (List Dt)) (gg:Dt->DE->Option DE):gLC own ix gi gg t g δ=(gi δ).bind λ ds=>if ds.length<=1000 then (sr gg t g (mB own ix δ) ds).map .lst else none:=rfl
@[simp] theorem NF (gi:DE->Option (List Dt)) (gg:Dt->DE->Option DE):xJ gi gg r δ=(gi δ).bind λ ds=>mC gg r δ ds:=rfl
@[simp] theorem NW (f:Dt->Option (List Dt)):gI f g δ=(g δ).bind f:=rfl
@[simp] theorem MU:lu gs δ=(gs δ).bind pz:=rfl
@[simp] theorem MV:La gs δ=(gs δ).bind K4:=rfl
@[simp] theorem NG (t1 t2:Bool):Gw t1 t2 gs δ=(gs δ).bind (D6 t1 t2):=rfl
@[simp] theorem MW:Es g δ=(g δ).bind xO:=rfl
@[simp] theorem Jt:dB δ=some true:=rfl
@[simp] theorem MX (own:List PySem.Str) (ix:List Nat):mB own ix δ=own.map (λ _=>none)++ix.map λ i=>(δ[i]?).getD none:=rfl
@[simp] theorem Mh (N:List PySem.Str) (ds:List Dt):gX N ds=ds.map some++List.replicate (N.length-ds.length) none:=rfl
@[simp] theorem MY {α:Type} (x:α):List.replicate 0 x=[]:=rfl
@[simp] theorem MZ {α:Type} (x:α):List.replicate 1 x=[x]:=rfl
@[simp] theorem M0 {α:Type} (x:α):List.replicate 2 x=[x,x]:=rfl
@[simp] theorem M3 {α:Type} (x:α):List.replicate 3 x=[x,x,x]:=rfl
@[simp] theorem M4 {α:Type} (x:α):List.replicate 4 x=[x,x,x,x]:=rfl
@[simp] theorem M5 (ds:List Dt):d_ (.tup ds)=some ds:=rfl
@[simp] theorem M6 (ds:List Dt):d_ (.lst ds)=some ds:=rfl
@[simp] theorem M7 (b:Bool):zR (.bl b)=some b:=rfl
@[simp] theorem NH (b:Bool):asB (.bl b)=some b:=rfl
@[simp] theorem M8 (n:Int):pB [.int n,.ty "int"]=some (.bl true):=rfl
@[simp] theorem M9 (n:Int):pB [.int n,.ty "bool"]=some (.bl false):=rfl
@[simp] theorem M_ (n:List Dt):pB [.tup n,.ty "tuple"]=some (.bl true):=rfl
@[simp] theorem Na (n:List Dt):iI [.tup n]=some (.int n.length):=rfl
@[simp] theorem Nb (n:List Dt):iI [.lst n]=some (.int n.length):=rfl
@[simp] theorem Nc (n:List (Int×Int)):Ek [.dct n]=some (.int n.length):=rfl
@[simp] theorem Lg (n:List Dt):jv [.lst n]=some (.tup n):=rfl
@[simp] theorem Lh (n:List Dt):jv [.tup n]=some (.tup n):=rfl
@[simp] theorem NX (g:Int->Int->Int) (a b:Int):dI g (.int a) (.int b)=some (.int (g a b)):=rfl
@[simp] theorem NI (g:Int->Int->Bool) (a b:Int):dIB g (.int a) (.int b)=some (.bl (g a b)):=rfl
@[simp] theorem NY (a b:Int):fX (.int a) (.int b)=some (.bl (!(a==b))):=rfl
@[simp] theorem NZ (a b:Int):gY (.int a) (.int b)=some (.bl (a==b)):=rfl
@[simp] theorem NJ (a b:Bool):fX (.bl a) (.bl b)=some (.bl (!(a==b))):=rfl
@[simp] theorem NK (a b:Bool):gY (.bl a) (.bl b)=some (.bl (a==b)):=rfl
@[simp] theorem Nd (a b:Bool):Ba (.bl a) (.bl b)=some (.bl (a != b)):=rfl
@[simp] theorem NL (a b:Bool):MJ (.bl a) (.bl b)=some (.bl (a==b)):=rfl
@[simp] theorem NM (ds:List Dt) (i:Int):dIx (.tup ds) (.int i)=atI ds i:=rfl
@[simp] theorem NN (ds:List Dt) (i:Int):dIx (.lst ds) (.int i)=atI ds i:=rfl
@[simp] theorem NO (x y:Dt):atI [x,y] 0=some x:=rfl
@[simp] theorem NP (x y:Dt):atI [x,y] 1=some y:=rfl
@[simp] theorem HN (l:List Bool):Co [.lst (l.map .bl)]=some (.bl (l.all id)):=by show(Cn (l.map .bl)).map _=_;rw[xX];rfl
end
end L2
namespace L2
open PySem PySem.Spec PyProof.Rows Zp
noncomputable abbrev aM (k:Nat):Dt:=.int k
noncomputable def bM (p:Nat×Nat):Dt:=.tup [aM p.1,aM p.2]
noncomputable abbrev cT (l:List (Nat×Nat)):Dt:=.tup (l.map bM)
noncomputable def bf (w:Nat×List (Nat×Nat)):Dt:=.tup [aM w.1,cT w.2]
noncomputable def cw:Dt->Option Nat
 | .int i=>if 0<=i then some i.toNat else none
 | _=>none
theorem bJ {d:Dt}{k:Nat}(h:cw d=some k):d=aM k:=by
 cases d<;>simp[cw]at h
 rw[<-h.2,aM];congr 1;omega
@[simp] theorem bH (k:Nat):cw (aM k)=some k:=by simp[cw,aM]
noncomputable def Ju {α:Type}(F:Dt->Dt->Option α):List Dt->Option α
 | [x,y]=>F x y
 | _=>none
theorem yd {α:Type}{F:Dt->Dt->Option α}{l:List Dt}{d:α}(e:Ju F l=some d):∃ x y,l=[x,y]/\F x y=some d:=by
 cases l with
 | nil=>cases e
 | cons x r=>cases r with
  | nil=>cases e
  | cons y z=>cases z with
   | nil=>exact⟨x,y,rfl,e⟩
   | cons _ _=>cases e
noncomputable def dNP (d:Dt):Option (Nat×Nat):=(xS d).bind (Ju λ x y=>(cw x).bind λ a=>(cw y).map λ b=>(a,b))
theorem Gz {d:Dt}{p:Nat×Nat}(h:dNP d=some p):d=bM p:=by
 obtain⟨l,e0,h⟩:=aQ h
 obtain⟨x,y,rfl,h⟩:=yd h
 obtain⟨a,e1,h⟩:=aQ h
 obtain⟨b,e2,h⟩:=br h
 subst h
 rw[lq e0,bJ e1,bJ e2];rfl
@[simp] theorem GA (p:Nat×Nat):dNP (bM p)=some p:=by
 show(cw (aM p.1)).bind (λ a=>(cw (aM p.2)).map λ b=>(a,b))=_
 rw[bH,bH];rfl
noncomputable def Cq:List Dt->Option (List (Nat×Nat))
 | []=>some []
 | d::ds=>(dNP d).bind λ i=>(Cq ds).map (i::·)
theorem nN:∀ {ds:List Dt} {l:List (Nat×Nat)},Cq ds=some l->ds=l.map bM
 | [],l,h=>by cases h;rfl
 | d::ds,l,h=>by
  obtain⟨i,e1,h⟩:=aQ h
  obtain⟨r,e2,h⟩:=br h
  subst h
  rw[Gz e1,nN e2]
  rfl
@[simp] theorem sL (l:List (Nat×Nat)):Cq (l.map bM)=some l:=by
 induction l with
 | nil=>rfl
 | cons i r ih=>show(dNP (bM i)).bind (λ i=>(Cq (r.map bM)).map (i::·))=_;rw[ih,GA];rfl
noncomputable def dTs (d:Dt):Option (List (Nat×Nat)):=(zU d).bind Cq
noncomputable def dTt (d:Dt):Option (List (Nat×Nat)):=(xS d).bind Cq
theorem Bg {d:Dt}{l:List (Nat×Nat)}(h:dTt d=some l):d=cT l:=by
 obtain⟨ds,e,h⟩:=aQ h
 rw[lq e,nN h]
@[simp] theorem Bh (l:List (Nat×Nat)):dTt (cT l)=some l:=sL l
theorem Bi {d:Dt}{l:List (Nat×Nat)}(h:dTs d=some l):d=cT l\/d=.lst (l.map bM):=by
 obtain⟨ds,e,h⟩:=aQ h
 rcases nK e with rfl | rfl
 ·exact .inl (by rw[nN h])
 ·exact .inr (by rw[nN h])
@[simp] theorem GB (l:List (Nat×Nat)):dTs (.lst (l.map bM))=some l:=sL l
@[simp] theorem lU (l:List (Nat×Nat)):dTs (cT l)=some l:=sL l
noncomputable def nbI (l:List (Nat×Nat))(p:Nat):List Int:=srt ((l.filter λ t=>t.2==p).map (λ t=>(t.1:Int))++(l.filter λ t=>t.1==p).map λ t=>(t.2:Int))
noncomputable def nb (l:List (Nat×Nat))(p:Nat):List Nat:=(nbI l p).map Int.toNat
theorem ye (l:List (Nat×Nat))(p:Nat):(nbI l p).Perm ((l.filter λ t=>t.2==p).map (λ t=>(t.1:Int))++(l.filter λ t=>t.1==p).map λ t=>(t.2:Int)):=lx _
theorem qR (l:List (Nat×Nat))(p:Nat):(nb l p).Perm ((l.filter λ t=>t.2==p).map (·.1)++(l.filter λ t=>t.1==p).map (·.2)):=by
 have:=(ye l p).map Int.toNat
 unfold nb
 simpa [List.map_append,Function.comp_def] using this
theorem Jv (l:List (Nat×Nat))(p:Nat):nbI l p=(nb l p).map λ(k:Nat)=>(k:Int):=by
 unfold nb
 rw[List.map_map]
 conv=>lhs;rw[<-List.map_id (nbI l p)]
 refine aE λ x hx=>?_
 have h:=(ye l p).mem_iff.mp hx
 have:0<=x:=by
  rcases List.mem_append.mp h with h | h<;>(obtain⟨t,_,rfl⟩:=aA.mp h;omega)
 simp;omega
theorem Jw (l:List (Nat×Nat))(p:Nat):(nb l p).length<=2*l.length:=by
 rw[(qR l p).length_eq,List.length_append,ah,ah]
 have:=List.length_filter_le (λ t:Nat×Nat=>t.2==p) l
 have:=List.length_filter_le (λ t:Nat×Nat=>t.1==p) l
 omega
noncomputable def fB (fd:List (Nat×Nat))(k:Nat):Bool:=fd.any λ q=>q.1==k
noncomputable def look (fd:List (Nat×Nat))(k:Nat):Nat:=(fd.lookup k).getD 0
noncomputable def bN (place:Nat)(st:List (Nat×Nat)×List Nat)(near:Nat):List (Nat×Nat)×List Nat:=if fB st.1 near=true then st else (st.1++[(near,look st.1 place+1)],st.2++[near])
noncomputable def visit (l:List (Nat×Nat))(st:List (Nat×Nat)×List Nat)(place:Nat):List (Nat×Nat)×List Nat:=(nb l place).foldl (bN place) st
noncomputable def cY (l:List (Nat×Nat))(fd:List (Nat×Nat))(bu:List Nat):List (Nat×Nat)×List Nat:=bu.foldl (visit l) (fd,[])
noncomputable def fM (l:List (Nat×Nat)):Nat->List (Nat×Nat)->List Nat->List (Nat×Nat)
 | 0,fd,_=>fd
 | _+1,fd,[]=>fd
 | k+1,fd,e::es=>fM l k (cY l fd (e::es)).1 (cY l fd (e::es)).2
noncomputable def bfs (l:List (Nat×Nat))(s:Nat):List (Nat×Nat):=fM l (2*l.length+2) [(s,0)] [s]
noncomputable def bL (fd:List (Nat×Nat)):List (Int×Int):=fd.map λ q=>((q.1:Int),(q.2:Int))
noncomputable def ly (p q:Nat×Nat):Bool:=HT.lexLt [(p.1:Int),(p.2:Int)] [(q.1:Int),(q.2:Int)]
noncomputable def rise (l:List (Nat×Nat)):Bool:=(l.zip l.tail).all λ pq=>ly pq.1 pq.2
structure Good (w:Nat×List (Nat×Nat)):Prop where
 two:2<=w.1
 da:w.1<=8
 ok:∀ p∈w.2,p.1<p.2/\p.2<w.1
 rise:rise w.2=true
 all:(bfs w.2 0).length=w.1
 len:w.2.length<=30
 ne:w.2≠[]
noncomputable def yf (w:Nat×List (Nat×Nat)):Bool:=decide (2<=w.1/\w.1<=8)&&(w.2.all λ p=>decide (p.1<p.2/\p.2<w.1))&&rise w.2&&decide ((bfs w.2 0).length=w.1)&&decide (w.2.length<=30)&&!w.2.isEmpty
theorem uP (w:Nat×List (Nat×Nat)):yf w=true↔Good w:=by
 unfold yf
 simp only[Bool.and_eq_true,decide_eq_true_eq,List.all_eq_true,Bool.not_eq_true',List.isEmpty_eq_false_iff]
 constructor
 ·rintro⟨⟨⟨⟨⟨h1,h2⟩,h3⟩,h4⟩,h5⟩,h6⟩
  exact⟨h1.1,h1.2,h2,h3,h4,h5,h6⟩
 ·rintro⟨h1,h1',h2,h3,h4,h5,h6⟩
  exact⟨⟨⟨⟨⟨⟨h1,h1'⟩,h2⟩,h3⟩,h4⟩,h5⟩,h6⟩
noncomputable def dW (d:Dt):Option (Nat×List (Nat×Nat)):=(xS d).bind (Ju λ x y=>(cw x).bind λ n=>(dTt y).bind λ l=>if yf (n,l)=true then some (n,l) else none)
theorem d4 {d:Dt}{w:Nat×List (Nat×Nat)}(h:dW d=some w):d=bf w/\Good w:=by
 obtain⟨l,e0,h⟩:=aQ h
 obtain⟨x,y,rfl,h⟩:=yd h
 obtain⟨a,e1,h⟩:=aQ h
 obtain⟨b,e2,h⟩:=aQ h
 by_cases hg:yf (a,b)=true
 ·rw[ae hg]at h
  cases h
  rw[lq e0,bJ e1,Bg e2]
  exact⟨rfl,(uP _).mp hg⟩
 ·rw[af hg]at h;cases h
theorem iK {w:Nat×List (Nat×Nat)}(h:Good w):dW (bf w)=some w:=by
 show(cw (aM w.1)).bind (λ n=>(dTt (cT w.2)).bind λ l=>if yf (n,l)=true then some (n,l) else none)=_
 rw[bH,Bh,aa,aa,ae ((uP _).mpr h)]
noncomputable def f_ (l:List Dt):Option Dt:=(pr2 l).map λ t=>.bl (decide (0<=t.2)&&decide (t.2<t.1))
@[simp] theorem Jx (n p:Int):f_ [.int n,.int p]=some (.bl (decide (0<=p)&&decide (p<n))):=rfl
noncomputable def lz:List Dt->Option Dt:=nJ λ x y=>(tZ x).bind λ n=>(dPr y).map λ t=>.bl ((decide (0<=t.1)&&decide (t.1<n))&&((decide (0<=t.2)&&decide (t.2<n))&&decide (t.1<t.2)))
@[simp] theorem Li (n a b:Int):lz [.int n,.tup [.int a,.int b]]=some (.bl ((decide (0<=a)&&decide (a<n))&&((decide (0<=b)&&decide (b<n))&&decide (a<b)))):=rfl
noncomputable def gM:List Dt->Option Dt
 | [x]=>(dTt x).bind λ l=>if l.length<=1000/\l≠[] then some (.bl (rise l)) else none
 | _=>none
noncomputable def eO:List Dt->Option Dt
 | [x,y]=>(dTs x).bind λ l=>(cw y).bind λ p=>if l.length<=30 then some (.tup ((nb l p).map aM)) else none
 | _=>none
noncomputable def dG:List Dt->Option Dt
 | [x,y]=>(dTs x).bind λ l=>(cw y).bind λ p=>if l.length<=30 then some (.dct (bL (bfs l p))) else none
 | _=>none
noncomputable def iL (w:Nat×List (Nat×Nat)):List Nat:=(List.range w.1).map λ p=>(nb w.2 p).length
noncomputable def hZ:List Dt->Option Dt
 | [x]=>(dW x).map λ w=>.lst ((iL w).map aM)
 | _=>none
noncomputable def nO:List Dt->Option Dt
 | [x]=>(dW x).map λ _=>.bl true
 | _=>none
noncomputable def de:List Dt->Option Dt
 | [x]=>(dW x).map λ _=>.non
 | _=>none
noncomputable def bR:List Dt->Option Dt
 | [x,y]=>(dW x).bind λ w=>(cw y).bind λ p=>if p<w.1 then some .non else none
 | _=>none
noncomputable def t_ (l:List Dt):Option Dt:=(pr2 l).bind λ t=>if 0<=t.1/\t.1<=t.2 then some .non else none
@[simp] theorem Jy (k m:Int):t_ [.int k,.int m]=if 0<=k/\k<=m then some .non else none:=rfl
noncomputable def mQ:DE->Option RD:=(cu (tX (aT 1 eg (aK (aN 1) aP)) (o_ (dIB λ i j=>decide (i<=j)) (dIB λ i j=>decide (i<j)) (gC (.int 0)) (aN 1) (aN 0))))
noncomputable abbrev zY:List Str:=["many","thing"]
noncomputable def sM:DE->Option RD:=(bP (jt (qw (gK (gTr (bK pB (aK (aN 1) (aK (gC (.ty "tuple")) aP))))) (gB (bg fX (bK iI (aK (aN 1) aP)) (gC (.int 2))))) (cu (gC (.bl false))) fy) (bP (qx (fJ 2 3) (aN 1)) (cu (tX (aT 2 f_ (aK (aN 0) (aK (aN 2) aP))) (tX (aT 2 f_ (aK (aN 0) (aK (aN 3) aP))) (bg (dIB λ i j=>decide (i<j)) (aN 2) (aN 3)))))))
noncomputable abbrev Ex:List Str:=["many","thing","a","b"]
noncomputable def lC:DE->Option RD:=(cu (bK Co (aK (gLC ["one","following"] [] (Gw true true (aK (aN 0) (aK (Es (aN 0)) aP))) (fJ 0 1) dB (bg Ef (aN 0) (aN 1))) aP)))
noncomputable abbrev yg:List Str:=["things"]
noncomputable def lV:DE->Option RD:=(bP (dR 2 (gLC ["a","b"] [1] (gI d_ (aN 0)) (fJ 0 1) (gB (bg gY (aN 1) (aN 2))) (aN 0))) (bP (dR 3 (gLC ["a","b"] [1] (gI d_ (aN 0)) (fJ 0 1) (gB (bg gY (aN 0) (aN 2))) (aN 1))) (cu (bK jv (aK (bK (vI srt) (aK (bg xP (aN 2) (aN 3)) aP)) aP)))))
noncomputable abbrev Cr:List Str:=["ties","place","lesser","greater"]
noncomputable def pD:DE->Option RD:=(bP (qx (fJ 1 2) (aN 0)) (cu (gLC ["place"] [2] (lu (aK (aN 1) aP)) (ggN 0) dB (bK iI (aK (aT 2 eO (aK (aN 1) (aK (aN 0) aP))) aP)))))
noncomputable abbrev Cs:List Str:=["web","many","ties"]
noncomputable def sN:DE->Option RD:=(bP (jt (qw (gK (gTr (bK pB (aK (aN 0) (aK (gC (.ty "tuple")) aP))))) (gB (bg fX (bK iI (aK (aN 0) aP)) (gC (.int 2))))) (cu (gC (.bl false))) fy) (bP (qx (fJ 1 2) (aN 0)) (bP (jt (qw (gK (gTr (aT 1 eg (aK (aN 1) aP)))) (gK (gB (o_ (dIB λ i j=>decide (i<=j)) (dIB λ i j=>decide (i<=j)) (gC (.int 2)) (aN 1) (gC (.int 8)))))) (cu (gC (.bl false))) fy) (bP (jt (qw (gK (gTr (bK pB (aK (aN 2) (aK (gC (.ty "tuple")) aP))))) (gK (gTr (bK Co (aK (gLC ["tie"] [1] (gI d_ (aN 2)) (ggN 0) dB (aT 2 lz (aK (aN 1) (aK (aN 0) aP)))) aP))))) (cu (gC (.bl false))) fy) (cu (tX (aT 1 gM (aK (aN 2) aP)) (bg gY (bK Ek (aK (aT 2 dG (aK (aN 2) (aK (gC (.int 0)) aP))) aP)) (aN 1))))))))
noncomputable abbrev Ey:List Str:=["thing","many","ties"]
noncomputable def lD:DE->Option RD:=(jt (gK (gTr (aT 1 nO (aK (aN 0) aP)))) pA fy)
noncomputable abbrev yh:List Str:=["thing"]
noncomputable def jx:DE->Option RD:=(jt (gK (gTr (aT 2 f_ (aK (bg dIx (aN 0) (gC (.int 0))) (aK (aN 1) aP))))) pA fy)
noncomputable abbrev ua:List Str:=["web","thing"]
theorem yi:Hg 2 zY f_ mQ:=by
 intro ds d hl h
 obtain⟨⟨n,p⟩,e1,e2⟩:=br h
 obtain rfl:=lR e1
 ·cases e2
  clear h e1
  refine⟨.rt (.bl (decide (0<=p)&&decide (p<n))),?_,rfl⟩
  simp[mQ]
  by_cases h:0<=p<;>simp[h]
theorem Ct:Hg 2 Ex lz sM:=by
 intro ds d hl h
 obtain⟨x,y,rfl,h1⟩:=fL h
 obtain⟨n,e1,h2⟩:=aQ h1
 obtain⟨⟨a,b⟩,e2,h3⟩:=br h2
 obtain rfl:=jJ e1
 obtain rfl:=Bb e2
 ·cases h3
  clear h h1 h2 e1 e2
  refine⟨.rt (.bl ((decide (0<=a)&&decide (a<n))&&((decide (0<=b)&&decide (b<n))&&decide (a<b)))),?_,rfl⟩
  simp[sM]
  by_cases h:0<=a/\a<n<;>by_cases h':0<=b/\b<n<;>simp[h,h']
theorem GC (l:List (Nat×Nat)):((l.map bM).zip (l.tail.map bM)).map (λ(p,q)=>Dt.tup [p,q])=(l.zip l.tail).map λ pq=>Dt.tup [bM pq.1,bM pq.2]:=by
 rw[List.zip_map,List.map_map];rfl
set_option tactic.hygienic true in
theorem vN:Hg 1 yg gM lC:=by
 intro ds d hl h
 match ds,h with
 | [x],h =>
  obtain⟨l,e1,h⟩:=aQ (show(dTt x).bind _=_ from h)
  split at h
  ·rename_i hc
   cases h
   rw[Bg e1]
   refine⟨.rt (.bl (rise l)),?_,rfl⟩
   match l,hc.2,hc.1 with
   | p::t,_,hlen =>
    have lc:=cP (enc:=λ pq:(Nat×Nat)×(Nat×Nat)=>Dt.tup [bM pq.1,bM pq.2]) (gg:=fJ 0 1) (ge:=bg Ef (aN 0) (aN 1)) (δc:=[none,none]) (δa:=λ pq=>[some (bM pq.1),some (bM pq.2)]) (enc':=λ pq=>.bl (ly pq.1 pq.2)) ((p::t).zip t) λ a _=>⟨rfl,by
     simp[bM,aM,Ef,d9,tZ,ly]⟩
    have ez:=GC (p::t)
    have e2:((p::t).zip t).map (λ pq=>Dt.bl (ly pq.1 pq.2))=(((p::t).zip t).map λ pq=>ly pq.1 pq.2).map Dt.bl:=by simp
    rw[e2]at lc
    have e3:(((p::t).zip t).map λ pq=>ly pq.1 pq.2).all id=rise (p::t):=by simp[rise,List.all_map,Function.comp_def]
    have e4:((p::t).zip t).length<=1000:=by rw[List.length_zip];omega
    simp only[List.map_cons,List.tail_cons]at ez
    have e5:((bM p::t.map bM).zip (t.map bM)).map (λ(p,q)=>Dt.tup [p,q])=((p::t).zip t).map λ pq=>Dt.tup [bM pq.1,bM pq.2]:=ez
    have e6:D6 true true [cT (p::t),.tup (t.map bM)]=some (((p::t).zip t).map λ pq=>Dt.tup [bM pq.1,bM pq.2]):=by
     rw[<-e5];rfl
    have e7:xO (cT (p::t))=some (.tup (t.map bM)):=rfl
    generalize ((p::t).zip t).map (λ pq=>ly pq.1 pq.2)=bs at lc e3
    generalize hzs:((p::t).zip t).map (λ pq=>Dt.tup [bM pq.1,bM pq.2])=zs at lc e6
    have e8:zs.length<=1000:=by rw[<-hzs,ah];exact e4
    simp[lC,e7,e6,e8,lc,e3]
  ·cases h
theorem iM (a b:Nat):((a:Int)==(b:Int))=(a==b):=by
 rw[Bool.eq_iff_iff];simp;omega
set_option tactic.hygienic true in
theorem zZ:Hg 2 Cr eO lV:=by
 intro ds d hl h
 match ds,h with
 | [x,y],h =>
  obtain⟨l,e1,h⟩:=aQ (show(dTs x).bind _=_ from h)
  obtain⟨p,e2,h⟩:=aQ h
  split at h
  ·rename_i hc
   cases h
   rw[bJ e2]
   refine⟨.rt (.tup ((nb l p).map aM)),?_,rfl⟩
   have lc1:=eh (enc:=bM) (gg:=fJ 0 1) (gt:=gB (bg gY (aN 1) (aN 2))) (ge:=aN 0) (δc:=[none,none,some (aM p)]) (δa:=λ t=>[some (aM t.1),some (aM t.2),some (aM p)]) (p:=λ t=>t.2==p) (enc':=λ t=>aM t.1) l λ a _=>⟨rfl,by
    simp[aM,iM],λ _=>rfl⟩
   have lc2:=eh (enc:=bM) (gg:=fJ 0 1) (gt:=gB (bg gY (aN 0) (aN 2))) (ge:=aN 1) (δc:=[none,none,some (aM p)]) (δa:=λ t=>[some (aM t.1),some (aM t.2),some (aM p)]) (p:=λ t=>t.1==p) (enc':=λ t=>aM t.2) l λ a _=>⟨rfl,by
    simp[aM,iM],λ _=>rfl⟩
   have hlen:l.length<=1000:=by omega
   have f1:=List.length_filter_le (λ t:Nat×Nat=>t.2==p) l
   have f2:=List.length_filter_le (λ t:Nat×Nat=>t.1==p) l
   have e5:((l.filter λ t=>t.2==p).map (λ t=>aM t.1))++((l.filter λ t=>t.1==p).map λ t=>aM t.2)=((l.filter λ t=>t.2==p).map (λ t=>(t.1:Int))++(l.filter λ t=>t.1==p).map λ t=>(t.2:Int)).map Dt.int:=by simp[aM,Function.comp_def]
   have e6:xP (.lst ((l.filter λ t=>t.2==p).map (λ t=>aM t.1))) (.lst ((l.filter λ t=>t.1==p).map λ t=>aM t.2))=some (.lst (((l.filter λ t=>t.2==p).map (λ t=>(t.1:Int))++(l.filter λ t=>t.1==p).map λ t=>(t.2:Int)).map Dt.int)):=by
    show(if _ then some (Dt.lst _) else none)=_
    rw[ae (by simp only[ah];omega),e5]
   have e7:vI srt [.lst (((l.filter λ t=>t.2==p).map (λ t=>(t.1:Int))++(l.filter λ t=>t.1==p).map λ t=>(t.2:Int)).map Dt.int)]=some (.lst ((nb l p).map aM)):=by
    show(if _ then _ else none)=_
    rw[ae (by simp only[ah,List.length_append];omega),jK]
    have:=Jv l p
    unfold nbI at this
    rw[Option.map_some,this,List.map_map];rfl
   generalize ((l.filter λ t=>t.2==p).map (λ t=>(t.1:Int))++(l.filter λ t=>t.1==p).map λ t=>(t.2:Int)).map Dt.int=zs at e6 e7
   generalize ((l.filter λ t=>t.2==p).map (λ t=>aM t.1))=xs at lc1 e6
   generalize ((l.filter λ t=>t.1==p).map (λ t=>aM t.2))=ys at lc2 e6
   rcases Bi e1 with rfl | rfl
   ·simp[lV,lc1,lc2,hlen,e6,e7]
   ·simp[lV,lc1,lc2,hlen,e6,e7]
  ·cases h
theorem gN {n:Nat}(h:n<=1000000):pz [aM n]=some ((List.range n).map λ(i:Nat)=>aM i):=by
 show(if (n:Int)<=1000000/\-1000000<=(n:Int) then some ((List.range (n:Int).toNat).map λ(i:Nat)=>Dt.int i) else none)=_
 rw[ae (by omega),Int.toNat_natCast]
theorem GF {l:List (Nat×Nat)}(h:l.length<=30)(p:Nat):eO [cT l,aM p]=some (.tup ((nb l p).map aM)):=by
 show(dTs (cT l)).bind (λ l=>(cw (aM p)).bind λ p=>if l.length<=30 then some (Dt.tup ((nb l p).map aM)) else none)=_
 rw[lU,bH,aa,aa,ae h]
theorem sO {x:Dt}{l:List (Nat×Nat)}(e:dTs x=some l)(h:l.length<=30)(p:Nat):eO [x,aM p]=some (.tup ((nb l p).map aM)):=by
 show(dTs x).bind (λ l=>(cw (aM p)).bind λ p=>if l.length<=30 then some (Dt.tup ((nb l p).map aM)) else none)=_
 rw[e,bH,aa,aa,ae h]
theorem z0:Hg 1 Cs hZ pD:=by
 intro ds d hl h
 match ds,h with
 | [x],h =>
  obtain⟨w,e1,h⟩:=br (show(dW x).map _=_ from h)
  subst h
  obtain⟨rfl,hg⟩:=d4 e1
  refine⟨.rt (.lst ((iL w).map aM)),?_,rfl⟩
  have lc:=cP (enc:=λ i:Nat=>aM i) (gg:=ggN 0) (ge:=bK iI (aK (aT 2 eO (aK (aN 1) (aK (aN 0) aP))) aP)) (δc:=[none,some (cT w.2)]) (δa:=λ i=>[some (aM i),some (cT w.2)]) (enc':=λ i=>aM (nb w.2 i).length) (List.range w.1) λ a _=>⟨rfl,by
   simp[GF hg.len]⟩
  have h8:=hg.da
  simp[pD,bf,gN (show w.1<=1000000 by omega),lc,iL,Function.comp_def]
  omega
theorem Cu:Hg 1 Ey nO sN:=by
 intro ds d hl h
 match ds,h with
 | [x],h =>
  obtain⟨w,e1,h⟩:=br (show(dW x).map _=_ from h)
  subst h
  obtain⟨rfl,hg⟩:=d4 e1
  refine⟨.rt (.bl true),?_,rfl⟩
  have lc:=cP (enc:=bM) (gg:=ggN 0) (ge:=aT 2 lz (aK (aN 1) (aK (aN 0) aP))) (δc:=[none,some (aM w.1)]) (δa:=λ t=>[some (bM t),some (aM w.1)]) (enc':=λ _=>.bl true) w.2 λ a ha=>⟨rfl,by
   have:=hg.ok a ha
   have h1:((a.1:Int)<w.1):=by omega
   have h2:((a.2:Int)<w.1):=by omega
   have h3:((a.1:Int)<a.2):=by omega
   simp[bM,aM,h1,h2,h3]⟩
  have e3:(w.2.map λ _=>Dt.bl true)=(w.2.map λ _=>true).map Dt.bl:=by simp
  rw[e3]at lc
  have e4:(w.2.map λ _=>true).all id=true:=by simp
  generalize (w.2.map λ _=>true)=bs at lc e4
  have e5:gM [cT w.2]=some (.bl true):=by
   show(dTt (cT w.2)).bind _=_
   rw[Bh,aa,ae ⟨by have:=hg.len;omega,hg.ne⟩,hg.rise]
  have e6:dG [cT w.2,aM 0]=some (.dct (bL (bfs w.2 0))):=by
   show(dTs (cT w.2)).bind (λ l=>(cw (aM 0)).bind λ p=>if l.length<=30 then some (Dt.dct (bL (bfs l p))) else none)=_
   rw[lU,bH,aa,aa,ae hg.len]
  have e7:(bL (bfs w.2 0)).length=w.1:=by rw[bL,ah,hg.all]
  have h2:(2:Int)<=w.1:=by have:=hg.two;omega
  have h8:(w.1:Int)<=8:=by have:=hg.da;omega
  have h30:w.2.length<=1000:=by have:=hg.len;omega
  have e6:dG [Dt.tup (w.2.map bM),Dt.int 0]=some (.dct (bL (bfs w.2 0))):=e6
  have e5:gM [Dt.tup (w.2.map bM)]=some (.bl true):=e5
  simp only[aM]at lc
  simp[sN,bf,aM,h2,h8,lc,e4,e5,e6,e7,h30]
theorem vO:Hg 1 yh de lD:=by
 intro ds d hl h
 match ds,h with
 | [x],h =>
  obtain⟨w,e1,h⟩:=br (show(dW x).map _=_ from h)
  subst h
  refine⟨.nx [some x],?_,rfl⟩
  simp[lD,nO,e1]
set_option tactic.hygienic true in
theorem sP:Hg 2 ua bR jx:=by
 intro ds d hl h
 match ds,h with
 | [x,y],h =>
  obtain⟨w,e1,h⟩:=aQ (show(dW x).bind _=_ from h)
  obtain⟨p,e2,h⟩:=aQ h
  split at h
  ·rename_i hc
   cases h
   obtain⟨rfl,hg⟩:=d4 e1
   rw[bJ e2]
   refine⟨.nx [some (bf w),some (aM p)],?_,rfl⟩
   have:(p:Int)<w.1:=by omega
   simp[jx,bf,aM,this]
  ·cases h
noncomputable abbrev Web:=Nat×List (Nat×Nat)
noncomputable def goQ (w:Web)(l:List Rat):List Rat:=(l.zip (iL w)).map λ qd=>qd.1*Rat.divInt 1 qd.2
noncomputable def yj (w:Web)(l:List Rat)(p:Nat):List Rat:=(nb w.2 p).map λ j=>(goQ w l).getD j 0
noncomputable def Lj (w:Web)(l:List Rat):List Rat:=(List.range w.1).map λ p=>(yj w l p).sum
structure Nf (w:Web)(l:List Rat):Prop where
 len:l.length=w.1
 deg:∀ d∈iL w,0<d/\d<=1000
 sm:∀ q∈l,sm q
 nb:∀ p<w.1,∀ j∈nb w.2 p,j<w.1
 tot:∀ p<w.1,qz 0 (yj w l p)=some (yj w l p).sum
noncomputable def GG (w:Web)(l:List Rat):Bool:=decide (l.length=w.1)&&((iL w).all λ d=>decide (0<d/\d<=1000))&&(l.all λ q=>decide (sm q))&&((List.range w.1).all λ p=>(nb w.2 p).all λ j=>decide (j<w.1))&&((List.range w.1).all λ p=>decide (qz 0 (yj w l p)=some (yj w l p).sum))
noncomputable def dQt:Dt->Option (List Rat)
 | .tup ds=>dQs ds
 | _=>none
theorem GH {d:Dt}{l:List Rat}(h:dQt d=some l):d=.tup (l.map aS):=by
 match d,h with
 | .tup ds,h=>rw[nL (show dQs ds=some l from h)]
@[simp] theorem GI (l:List Rat):dQt (.tup (l.map aS))=some l:=vK l
noncomputable def yk:List Dt->Option Dt
 | [x,y]=>(dW x).bind λ w=>(dQt y).bind λ l=>if GG w l=true then some (.tup ((Lj w l).map aS)) else none
 | _=>none
noncomputable def cB (w:Web):List Rat:=(iL w).map λ(d:Nat)=>Rat.divInt d (2*w.2.length)
noncomputable def gw:List Dt->Option Dt
 | [x]=>(dW x).map λ w=>.tup ((cB w).map aS)
 | _=>none
noncomputable abbrev cH:=mN
noncomputable abbrev cy:=jZ
noncomputable abbrev dJ:=nM
noncomputable abbrev pE:=cn
noncomputable def vP:DE->Option RD:=(bP (eZ (aT 1 de (aK (aN 0) aP))) (cu (bK jv (aK (gLC ["degree"] [0] (gI d_ (aT 1 hZ (aK (aN 0) aP))) (ggN 0) dB (aT 2 cn (aK (aN 0) (aK (bg ju (gC (.int 2)) (bK iI (aK (bg dIx (aN 1) (gC (.int 1))) aP))) aP)))) aP))))
noncomputable abbrev GJ:List Str:=["web"]
noncomputable def qh:DE->Option RD:=(cu (aT 2 pE (aK (bg (dI (·+·)) (bg ju (bg dIx (aN 0) (gC (.int 0))) (bg dIx (aN 1) (gC (.int 1)))) (bg ju (bg dIx (aN 1) (gC (.int 0))) (bg dIx (aN 0) (gC (.int 1))))) (aK (bg ju (bg dIx (aN 0) (gC (.int 1))) (bg dIx (aN 1) (gC (.int 1)))) aP))))
noncomputable abbrev ym:List Str:=["_law_one","_law_other"]
noncomputable def nP:DE->Option RD:=(cu (aT 2 pE (aK (bg ju (bg dIx (aN 0) (gC (.int 0))) (bg dIx (aN 1) (gC (.int 0)))) (aK (bg ju (bg dIx (aN 0) (gC (.int 1))) (bg dIx (aN 1) (gC (.int 1)))) aP))))
noncomputable abbrev vQ:List Str:=["_law_one","_law_other"]
noncomputable def j5:DE->Option RD:=(bP (dR 1 (eU (aK (gC (.int 0)) (aK (gC (.int 1)) aP)))) (bP (xJ (gI d_ (aN 0)) (ggN 2) (dR 1 (aT 2 cH (aK (aN 1) (aK (aN 2) aP))))) (cu (aN 1))))
noncomputable abbrev vR:List Str:=["_law_some","_law_found","_law_one"]
theorem vS:∀ (l l':List Rat),vF (l.map aS) (l'.map aS)=true
 | [],_=>by cases ‹List Rat›<;>rfl
 | _::_,[]=>rfl
 | a::r,b::r'=>by
  show(sh2 (aS a) (aS b)&&vF (r.map aS) (r'.map aS))=true
  rw[vS r r'];rfl
theorem yn (a b:Rat):dEq (aS a) (aS b)=decide (a=b):=by
 have:dEq (aS a) (aS b)=((a.num==b.num)&&(((a.den:Int)==(b.den:Int))&&true)):=by simp[aS,dEq,jI]
 rw[this,Bool.eq_iff_iff]
 simp
 constructor
 ·rintro⟨h1,h2⟩;exact Rat.ext h1 (by omega)
 ·rintro rfl;exact⟨rfl,rfl⟩
theorem pF:∀ (l l':List Rat),jI (l.map aS) (l'.map aS)=decide (l=l')
 | [],[]=>by simp[jI]
 | [],_::_=>by simp[jI]
 | _::_,[]=>by simp[jI]
 | a::r,b::r'=>by
  have:jI ((a::r).map aS) ((b::r').map aS)=(dEq (aS a) (aS b)&&jI (r.map aS) (r'.map aS)):=by simp[jI]
  rw[this,yn,pF r r',Bool.eq_iff_iff]
  simp
@[simp] theorem Lk (l l':List Rat):gY (.tup (l.map aS)) (.tup (l'.map aS))=some (.bl (decide (l=l'))):=by
 unfold gY
 rw[ae (show sh3 (.tup (l.map aS)) (.tup (l'.map aS))=true from vS l l'),nH,pF]
@[simp] theorem Ll (l l':List Rat):fX (.tup (l.map aS)) (.tup (l'.map aS))=some (.bl (!decide (l=l'))):=by
 unfold fX
 rw[ae (show sh3 (.tup (l.map aS)) (.tup (l'.map aS))=true from vS l l'),nH,pF]
theorem Jz (a b:Rat):fX (aS a) (aS b)=some (.bl (!decide (a=b))):=by
 unfold fX
 rw[ae (show sh3 (aS a) (aS b)=true from rfl),yn]
theorem nQ (w:Web):(iL w).length=w.1:=by simp[iL]
theorem JA {l:List Rat}{n:Nat}(h:l.length=n)(h':n<=1000):fh [.tup (l.map aS),aM n]=some (.bl true):=by
 show(dQs (l.map aS)).bind _=_
 rw[vK,aa,ae ⟨by omega,by omega⟩]
theorem Cv {q:Rat}{d:Nat}(h1:sm q)(h2:0<d/\d<=1000):jZ [aS q,.tup [.int 1,aM d]]=some (aS (q*Rat.divInt 1 d)):=by
 have hd:(0:Int)<d:=by omega
 have e:dQ (.tup [.int 1,aM d])=some (Rat.divInt 1 d):=by
  show(if 0<(d:Int)/\Int.gcd 1 d=1 then some (Rat.divInt 1 d) else none)=_
  rw[ae ⟨hd,by simp⟩]
 obtain⟨r1,r2⟩:=mL hd (show Int.gcd 1 (d:Int)=1 by simp)
 have s2:sm (Rat.divInt 1 d):=by
  refine⟨?_,?_⟩
  ·rw[r1];decide +kernel
  ·have:(Rat.divInt 1 d).den=d:=by omega
   rw[this]
   exact Nat.lt_of_le_of_lt h2.2 (by decide +kernel)
 show(dQ (aS q)).bind (λ a=>(dQ (.tup [.int 1,aM d])).bind λ b=>if sm a/\sm b then some (aS (a*b)) else none)=_
 rw[mM,e,aa,aa,ae ⟨h1,s2⟩]
theorem getD_at {l:List Rat}{j:Nat}(h:j<l.length):atI (l.map aS) (j:Int)=some (aS (l.getD j 0)):=by
 have:=iY (xs:=l.map aS) (j:=j) (v:=aS l[j]) (by simp[h])
 rw[this,aD,aF h];rfl
theorem lW {w:Web}(e:dW (bf w)=some w):de [bf w]=some .non:=by
 show(dW (bf w)).map _=_
 rw[e];rfl
theorem h_ {w:Web}(e:dW (bf w)=some w){p:Nat}(h:p<w.1):bR [bf w,aM p]=some .non:=by
 show(dW (bf w)).bind (λ w=>(cw (aM p)).bind λ p=>if p<w.1 then some Dt.non else none)=_
 rw[e,bH,aa,aa,ae h]
theorem Ez:Hg 1 GJ gw vP:=by
 intro ds d hl h
 match ds,h with
 | [x],h =>
  obtain⟨w,e1,h⟩:=br (show(dW x).map _=_ from h)
  subst h
  obtain⟨rfl,hg⟩:=d4 e1
  refine⟨.rt (.tup ((cB w).map aS)),?_,rfl⟩
  have h8:=hg.da
  have h30:=hg.len
  have hpos:0<w.2.length:=List.length_pos_iff.mpr hg.ne
  have b1:bd 2:=by decide +kernel
  have b2:bd (w.2.length:Int):=by unfold bd;simp;exact Nat.lt_of_le_of_lt h30 (by decide +kernel)
  have b3:bd (2*(w.2.length:Int)):=by
   unfold bd
   have:(2*(w.2.length:Int)).natAbs<=60:=by omega
   exact Nat.lt_of_le_of_lt this (by decide +kernel)
  have e3:hZ [bf w]=some (.lst ((iL w).map aM)):=by
   show(dW (bf w)).map _=_
   rw[e1];rfl
  have lc:=cP (enc:=aM) (gg:=ggN 0) (ge:=aT 2 cn (aK (aN 0) (aK (bg ju (gC (.int 2)) (bK iI (aK (bg dIx (aN 1) (gC (.int 1))) aP))) aP))) (δc:=[none,some (bf w)]) (δa:=λ d=>[some (aM d),some (bf w)]) (enc':=λ(d:Nat)=>aS (Rat.divInt d (2*w.2.length))) (iL w) λ d _=>⟨rfl,by
   have hp2:(0:Int)<2*(w.2.length:Int):=by omega
   simp[bf,aM,dIC,b1,b2,b3,cn,hp2]⟩
  have e5:(iL w).map (λ(d:Nat)=>aS (Rat.divInt d (2*w.2.length)))=(cB w).map aS:=by simp[cB,Function.comp_def]
  rw[e5]at lc
  have e6:((iL w).map aM).length<=1000:=by simp[nQ];omega
  have c1:=lW e1
  generalize (iL w).map aM=ns at lc e3 e6
  generalize (cB w).map aS=us at lc ⊢
  generalize bf w=ww at *
  simp[vP,c1,e3,lc,e6]
theorem vT:Hg 2 ym cH qh:=Bf
theorem ub:Hg 2 vQ cy nP:=yc
theorem uc:Hg 1 vR dJ j5:=by
 intro ds d hl h
 match ds,h with
 | [x],h =>
  obtain⟨xs,e1,h⟩:=aQ (show(d_ x).bind _=_ from h)
  obtain⟨l,e2,h⟩:=aQ h
  obtain⟨b,e3,h⟩:=br h
  subst h
  have e2:=nL e2
  subst e2
  obtain⟨o',e4⟩:=mP x l 0 b none e3
  refine⟨.rt (aS b),?_,rfl⟩
  rw[HJ]at e4
  have e4:mC (ggN 2) (dR 1 (aT 2 cH (aK (aN 1) (aK (aN 2) aP)))) [some x,some Be,none] (l.map aS)=some (.nx [some x,some (aS b),o']):=e4
  generalize l.map aS=zs at e1 e4
  generalize hb:dR 1 (aT 2 cH (aK (aN 1) (aK (aN 2) aP)))=body at e4
  unfold j5
  rw[hb]
  simp[e1,e4]
noncomputable def HP (K:PySem.W.Frag)(J:It)(H:Hp)(ds:List Dt):Prop:=∀ H',cF H H'->(∀ (i:Nat) d,ds[i]?=some d->J.go i H'/\∀ x H'',J.yld i H' x H''->H''=H'/\Is K H'' x d)/\J.stop ds.length H'
noncomputable def iDT (K:PySem.W.Frag)(g:DE->Option (List Dt)):TI:=λ σ H R=>∃ δ ds,Sat K H σ δ/\g δ=some ds/\iW ds/\∀ J H',a_ H H'->HP K J H' ds->R J H'
section
variable {X:Cx}{e:Expr}{tg:Expr}
theorem Bj {g:DE->Option Dt}(h:PD X e g):PI X tg e (iDT X.K (gI nE g)):=(De h).of λ σ H R hz1=>by
 obtain⟨δ,ds,S,q,im,k⟩:=hz1
 obtain⟨x,e1,e2⟩:=aQ q
 have e2:=pj e2
 subst e2
 refine⟨δ,_,S,e1,λ v H1 s1 i1=>?_⟩
 obtain⟨a,xs,rfl,hq,is⟩:=i1.bX
 refine⟨a,rfl,⟨xs,hq⟩,k _ H1 s1 λ H2 s2=>⟨λ i d hd=>?_,⟨xs,s2.nC hq,by rw[is.length];exact ag _⟩⟩⟩
 have is2:=is.text s2 im
 obtain⟨v,hv,iv⟩:=is2.get hd
 exact⟨⟨xs,v,s2.nC hq,hv⟩,λ x H3 hz2=>by
  obtain⟨e3,y⟩:=hz2
  subst e3
  have:=y xs (s2.nC hq)
  rw[hv]at this
  cases this
  exact⟨rfl,iv⟩⟩
theorem yo {K:PySem.W.Frag}{J:It}{H0:Hp}{ds:List Dt}(ok:HP K J H0 ds){g:TG}{tb:TS}{D:Ends}{σ:St}{H:Hp}(Pv:Nat->St->Hp->Prop)(h0:Pv 0 σ H)(hl:∀ i σ H,i<=ds.length->Pv i σ H->cF H0 H)
  (hs:∀ i d x σ H,ds[i]?=some d->Is K H x d->Pv i σ H->g x σ H λ σ2 H2=>tb {D with nx:=Pv (i+1),ct:=Pv (i+1),bk:=D.nx} σ2 H2) (hd:∀ σ H,Pv ds.length σ H->D.nx σ H) :
  ∃ W:Nat->Nat->St->Hp->Prop,(∃ m,W 0 m σ H)/\∀ i m σ H,W i m σ H ->
   (J.stop i H/\D.nx σ H)\/(J.go i H/\∃ N:St->Hp->Prop,(∀ σ' H',N σ' H'->∃ m',m'<m/\W (i+1) m' σ' H')/\∀ x H',J.yld i H x H'->g x σ H' λ σ2 H2=>tb {D with nx:=N,ct:=N,bk:=D.nx} σ2 H2):=by
 refine⟨λ i m σ H=>m=ds.length-i/\i<=ds.length/\Pv i σ H,⟨ds.length,by simp,Nat.zero_le _,h0⟩,?_⟩
 rintro i m σ H ⟨rfl,hi,p⟩
 obtain⟨items,stop⟩:=ok H (hl i σ H hi p)
 by_cases hlt:i<ds.length
 ·have hdi:ds[i]?=some ds[i]:=by simp[hlt]
  obtain⟨go,yld⟩:=items i _ hdi
  refine .inr ⟨go,Pv (i+1),λ σ' H' p'=>⟨ds.length-(i+1),by omega,rfl,hlt,p'⟩,λ x H' y=>?_⟩
  obtain⟨rfl,ix⟩:=yld x H' y
  exact hs i _ x σ _ hdi ix p
 ·have e:i=ds.length:=by omega
  subst e
  exact .inl ⟨stop,hd σ H p⟩
end
theorem ib (fd:List (Nat×Nat))(k:Nat):fB fd k=true↔k∈fd.map (·.1):=by
 unfold fB;simp[List.any_eq_true]
theorem nR (fd:List (Nat×Nat))(k:Nat):gH (kvD (bL fd)) (Sum.inl (k:Int))=if fB fd k=true then some (.int (look fd k)) else none:=by
 induction fd with
 | nil=>rfl
 | cons p r ih =>
  by_cases h:p.1=k
  ·have e1:gH (kvD (bL (p::r))) (Sum.inl (k:Int))=some (.int p.2):=nc (p:=(Sum.inl (p.1:Int),V.int p.2)) (by rw[h])
   rw[e1]
   have e2:fB (p::r) k=true:=by rw[ib];simp[h]
   have e3:look (p::r) k=p.2:=by unfold look;rw[List.lookup_cons];simp[h]
   rw[ae e2,e3]
  ·have hne:¬ (Sum.inl (p.1:Int):Key)=Sum.inl (k:Int):=λ q=>h (by have:=Sum.inl.inj q;omega)
   have e1:gH (kvD (bL (p::r))) (Sum.inl (k:Int))=gH (kvD (bL r)) (Sum.inl (k:Int)):=by
    show gH ((Sum.inl (p.1:Int),V.int p.2)::kvD (bL r)) _=_
    unfold gH
    rw[List.find?_cons]
    have:decide ((Sum.inl (p.1:Int):Key)=Sum.inl (k:Int))=false:=decide_eq_false hne
    simp only[this]
   have e2:fB (p::r) k=fB r k:=by unfold fB;simp[h]
   have e3:look (p::r) k=look r k:=by
    unfold look
    rw[List.lookup_cons]
    have:(k==p.1)=false:=by simpa using Ne.symm h
    rw[this]
   rw[e1,e2,e3,ih]
theorem EA {fd:List (Nat×Nat)}{k:Nat}(v:Nat)(h:fB fd k=false):putK (kvD (bL fd)) (Sum.inl (k:Int)) (.int v)=kvD (bL (fd++[(k,v)])):=by
 have e:gH (kvD (bL fd)) (Sum.inl (k:Int))=none:=by rw[nR,h];rfl
 rw[rO _ e]
 simp[kvD,bL]
noncomputable def univ (l:List (Nat×Nat))(s:Nat):List Nat:=s::(l.map (·.1)++l.map (·.2))
theorem j6 {l:List (Nat×Nat)}{p j:Nat}:j∈nb l p↔(j,p)∈l\/(p,j)∈l:=by
 rw[(qR l p).mem_iff,List.mem_append,aA,aA]
 simp only[List.mem_filter,beq_iff_eq]
 constructor
 ·rintro (⟨⟨a,b⟩,⟨h1,h2⟩,rfl⟩ | ⟨⟨a,b⟩,⟨h1,h2⟩,rfl⟩)
  ·simp at h2;subst h2;exact .inl h1
  ·simp at h2;subst h2;exact .inr h1
 ·rintro (h | h)
  ·exact .inl ⟨(j,p),⟨h,rfl⟩,rfl⟩
  ·exact .inr ⟨(p,j),⟨h,rfl⟩,rfl⟩
theorem Bk {l:List (Nat×Nat)}{s p j:Nat}(h:j∈nb l p):j∈univ l s:=by
 refine ak _ ?_
 rcases j6.mp h with h | h
 ·exact List.mem_append_left _ (aA.mpr ⟨_,h,rfl⟩)
 ·exact aI _ (aA.mpr ⟨_,h,rfl⟩)
structure BI (u:List Nat)(st:List (Nat×Nat)×List Nat):Prop where
 nd:(st.1.map (·.1)).Nodup
 sub:∀ q∈st.1,q.1∈u
 by':∀ j∈st.2,j∈st.1.map (·.1)
set_option tactic.hygienic true in
theorem uQ {u:List Nat}{st:List (Nat×Nat)×List Nat}{p j:Nat}(h:BI u st)(hj:j∈u):BI u (bN p st j):=by
 unfold bN
 split
 ·exact h
 ·rename_i hk
  have hk:j∉st.1.map (·.1):=λ m=>hk ((ib _ _).mpr m)
  refine⟨?_,?_,?_⟩
  ·rw[List.map_append]
   exact vn h.nd hk
  ·intro q hq
   rcases List.mem_append.mp hq with z | z
   ·exact h.sub q z
   ·rw[List.mem_singleton.mp z];exact hj
  ·intro i hi
   rw[List.map_append]
   rcases List.mem_append.mp hi with z | z
   ·exact List.mem_append_left _ (h.by' i z)
   ·rw[List.mem_singleton.mp z];exact aI _ (by simp)
theorem sQ {st:List (Nat×Nat)×List Nat}{p j:Nat}:(bN p st j).1.length+st.2.length=st.1.length+(bN p st j).2.length:=by
 unfold bN;split<;>simp<;>omega
theorem lE {st:List (Nat×Nat)×List Nat}{p j k:Nat}(h:k∈st.1.map (·.1)):k∈(bN p st j).1.map (·.1):=by
 unfold bN;split
 ·exact h
 ·rw[List.map_append];exact List.mem_append_left _ h
theorem nS {α:Type}{f:List (Nat×Nat)×List Nat->α->List (Nat×Nat)×List Nat}{u:List Nat}:∀ (xs:List α) {st:List (Nat×Nat)×List Nat},(∀ x∈xs,∀ st,BI u st->BI u (f st x))->BI u st->BI u (xs.foldl f st)
 | [],_,_,h=>h
 | x::r,_,hf,h=>nS r (λ y hy=>hf y (ak _ hy)) (hf x ai _ h)
theorem lF {α:Type}{f:List (Nat×Nat)×List Nat->α->List (Nat×Nat)×List Nat}(hf:∀ st x,(f st x).1.length+st.2.length=st.1.length+(f st x).2.length):∀ (xs:List α) (st:List (Nat×Nat)×List Nat),(xs.foldl f st).1.length+st.2.length=st.1.length+(xs.foldl f st).2.length
 | [],_=>rfl
 | x::r,st=>by
  have h1:=hf st x
  have h2:=lF hf r (f st x)
  rw[List.foldl_cons];omega
theorem ic {α:Type}{f:List (Nat×Nat)×List Nat->α->List (Nat×Nat)×List Nat}(hf:∀ st x k,k∈st.1.map (·.1)->k∈(f st x).1.map (·.1)):∀ (xs:List α) (st:List (Nat×Nat)×List Nat) (k:Nat),k∈st.1.map (·.1)->k∈(xs.foldl f st).1.map (·.1)
 | [],_,_,h=>h
 | x::r,st,k,h=>ic hf r (f st x) k (hf st x k h)
theorem yp {l:List (Nat×Nat)}{s p:Nat}{st:List (Nat×Nat)×List Nat}(h:BI (univ l s) st):BI (univ l s) (visit l st p):=nS _ (λ _ hx _ hs=>uQ hs (Bk hx)) h
theorem uR {l:List (Nat×Nat)}{p:Nat}(st:List (Nat×Nat)×List Nat):(visit l st p).1.length+st.2.length=st.1.length+(visit l st p).2.length:=lF (λ _ _=>sQ) _ st
theorem mR {l:List (Nat×Nat)}{p:Nat}(st:List (Nat×Nat)×List Nat)(k:Nat)(h:k∈st.1.map (·.1)):k∈(visit l st p).1.map (·.1):=ic (λ _ _ _=>lE) _ st k h
theorem nU {l:List (Nat×Nat)}{s:Nat}{fd:List (Nat×Nat)}{bu:List Nat}(h:BI (univ l s) (fd,[])):BI (univ l s) (cY l fd bu):=nS _ (λ _ _ _ hs=>yp hs) h
theorem pG {l:List (Nat×Nat)}{fd:List (Nat×Nat)}{bu:List Nat}:(cY l fd bu).1.length=fd.length+(cY l fd bu).2.length:=by
 have:=lF (f:=visit l) (λ st p=>uR st) bu (fd,[])
 unfold cY
 simpa using this
theorem BI.le {u:List Nat}{st:List (Nat×Nat)×List Nat}(h:BI u st):st.1.length<=u.length:=by
 have h1:(st.1.map (·.1)).length<=u.length:=by
  have hs:∀ x∈st.1.map (·.1),x∈u:=λ x hx=>by obtain⟨q,hq,rfl⟩:=aA.mp hx;exact h.sub q hq
  exact aH h.nd hs
 simpa using h1
theorem jL (l:List (Nat×Nat))(s:Nat):(univ l s).length=2*l.length+1:=by simp[univ];omega
theorem GK {k:Nat}{A:Around}(hr:fG k A):A.units<cLine:=by have:=bq hr;omega
section
variable {K:PySem.W.Frag}
theorem yq {g:DE->Option Bool}(σ:St)(H:Hp)(Q Q':Bool->Hp->Prop)(h:∀ b H1,Q b H1->Q' b H1)(q:tDT K g σ H Q):tDT K g σ H Q':=by
 obtain⟨δ,b,S,e,k⟩:=q
 exact⟨δ,b,S,e,λ H' s=>h b H' (k H' s)⟩
noncomputable def intAt (i:Nat)(σ:St)(_:Hp):Nat:=match σ[i]? with
 | some (some (.int y))=>y.toNat
 | _=>0
theorem nV {H:Hp}{σ:St}{δ:DE}(S:Sat K H σ δ){i:Nat}{y:Nat}(h:δ[i]?=some (some (aM y)))(H':Hp):intAt i σ H'=y:=by
 obtain⟨v,hv,iv⟩:=S.at_ i _ h
 unfold intAt
 rw[hv,iv.int_inv]
 simp
theorem Bl (a:Int):(if a<0 then -a else a)=((a.natAbs:Nat):Int):=by split<;>omega
end
end L2
namespace L2
open PySem PySem.W PySem.Spec PyProof.Rows Tb
section
variable {X:Cx}
theorem yr:cG X (.type "range") (λ xs H Q=>∃ j:Int,xs=[V.int j]/\∀ p,H p=none->Q (.ref p) (upd H p (.rng 0 j))):=by
 intro pins s σ H xs us Q I r h
 obtain⟨j,rfl,q⟩:=h
 obtain⟨u,rfl,t,rfl⟩:=vals1 r
 refine call_range_1 ?_
 have hn:=I.hok.fresh (ag s.heap.objs.size)
 exact⟨.ref s.heap.objs.size,_,I.laid (o:=.rng 0 j) (λ b o e=>aC _ e) (ag _) ⟨_,_,_,aG _ rfl⟩,rfl,q _ hn⟩
theorem z3 (hc:X.calm=true):cG X (.type "list") (λ xs H Q=>∃ (r:Addr) (n:Nat),xs=[V.ref r]/\H r=some (.rng 0 n)/\n<=1000/\∀ p,H p=none->Q (.ref p) (upd H p (.lst ((List.range n).map λ(i:Nat)=>V.int i)))):=by
 intro pins s σ H xs us Q I r h
 obtain⟨a,n,rfl,ha,hn,q⟩:=h
 obtain⟨u,rfl,ru⟩:=vals1 r
 cases ru
 obtain⟨t,t',t'',e⟩:=I.hok a _ ha
 have hsz:Builtin.Range.rangeSize 0 (n:Int) 1=n:=by rw[rangeSize_one];split<;>omega
 refine call_list_range (I.ok.hd hc) (show IsRange s.heap a 0 n 1 t t' t'' from e) (small_one (by omega) (by omega) (by omega) (by omega)) hsz (by omega) λ h' tk acc c kp ho ia=>?_
 have hfr:=I.hok.fresh (ag s.heap.objs.size)
 refine⟨.ref s.heap.objs.size,_,I.laid (o:=.lst ((List.range n).map λ(i:Nat)=>V.int i)) kp (ag _) ⟨?_,acc.toList,c,?_,by simpa using ho⟩,rfl,q _ hfr⟩
 ·simp;rw[sizeLine_eq];omega
 ·obtain⟨i1,i2⟩:=ia
  have go:∀ (k:Nat) (l:List Value),l.length=k->(∀ (j:Nat) v,l[j]?=some v->∃ t,v=Value.int (0+(j:Int)*1) t)->Vals ((List.range k).map λ(i:Nat)=>V.int i) l:=by
   intro k
   induction k with
   | zero=>intro l hl _;rw[List.length_eq_zero_iff.mp hl];exact .nil
   | succ k ih =>
    intro l hl hv
    have e2:l=l.take k++[l[k]'(by omega)]:=by
     have h1:l.take (k+1)=l.take k++[l[k]'(by omega)]:=by rw[List.take_succ,aF (by omega)];rfl
     rw[<-h1,List.take_of_length_le (by omega)]
    rw[e2,List.range_succ,List.map_append]
    refine Vals.append (ih _ (by rw[List.length_take];omega) λ j v hj=>?_) (.cons ?_ .nil)
    ·by_cases hjk:j<k
     ·rw[List.getElem?_take_of_lt hjk]at hj;exact hv j v hj
     ·rw[List.getElem?_eq_none (by rw[List.length_take];omega)]at hj;cases hj
    ·obtain⟨t,ht⟩:=hv k (l[k]'(by omega)) (by simp)
     exact⟨t,by rw[ht];congr 1;omega⟩
  exact go n acc.toList (by simpa using i1) λ j v hj=>i2 j v (by rw[<-Array.getElem?_toList];exact hj)
end
end L2
namespace L2
open PySem PySem.Spec PyProof.Rows Zp
structure Drawn (m:Nat)(cl:List Nat)(tb te:List (Nat×Nat)):Prop where
 m2:2<=m
 m8:m<=8
 perm:cl.Perm (List.range m)
 tbl:tb.length=m-1
 tbk:∀ k,k<m-1->∃ a,tb[k]?=some (a,k+1)/\a<=k
 teo:∀ t∈te,t.1<m/\t.2<m/\t.1≠t.2
 tel:te.length<=12
noncomputable def rel (cl:List Nat)(t:Nat×Nat):Nat×Nat:=(min (cl.getD t.1 0) (cl.getD t.2 0),max (cl.getD t.1 0) (cl.getD t.2 0))
noncomputable def keys (fd:List (Nat×Nat)):List Nat:=fd.map (·.1)
noncomputable def Done (l:List (Nat×Nat))(fd:List (Nat×Nat))(k:Nat):Prop:=∀ j∈nb l k,j∈keys fd
set_option tactic.hygienic true in
theorem z4 {l:List (Nat×Nat)}(st:List (Nat×Nat)×List Nat)(p:Nat):Done l (visit l st p).1 p:=by
 intro j hj
 unfold visit
 have go:∀ (xs:List Nat) (st:List (Nat×Nat)×List Nat),j∈xs->j∈keys (xs.foldl (bN p) st).1:=by
  intro xs
  induction xs with
  | nil=>intro st h;cases h
  | cons x r ih =>
   intro st h
   rw[List.foldl_cons]
   rcases ar.mp h with rfl | h
   ·refine ic (λ st p k hk=>lE hk) r _ j ?_
    unfold bN
    split
    ·rename_i hk;exact(ib _ _).mp hk
    ·rw[List.map_append];exact aI _ (by simp)
   ·exact ih _ h
 exact go _ _ hj
theorem mS {l:List (Nat×Nat)}{fd:List (Nat×Nat)}:∀ (bu:List Nat) (st:List (Nat×Nat)×List Nat) (k:Nat),(k∈bu\/Done l st.1 k)->Done l (bu.foldl (visit l) st).1 k
 | [],st,k,h=>h.elim (λ z=>by cases z) id
 | e::r,st,k,h=>by
  rw[List.foldl_cons]
  refine mS (fd:=fd) r (visit l st e) k ?_
  rcases h with h | h
  ·rcases ar.mp h with rfl | h
   ·exact .inr (z4 st k)
   ·exact .inl h
  ·exact .inr λ j hj=>mR st j (h j hj)
set_option tactic.hygienic true in
theorem Cw {l:List (Nat×Nat)}:∀ (bu:List Nat) (st:List (Nat×Nat)×List Nat) (k:Nat),k∈keys (bu.foldl (visit l) st).1->k∈keys st.1\/k∈(bu.foldl (visit l) st).2:=by
 have sub2:∀ (p:Nat) (xs:List Nat) (st:List (Nat×Nat)×List Nat) (k:Nat),k∈st.2->k∈(xs.foldl (bN p) st).2:=by
  intro p xs
  induction xs with
  | nil=>intro st k h;exact h
  | cons x r ih =>
   intro st k h
   rw[List.foldl_cons]
   refine ih _ k ?_
   unfold bN;split
   ·exact h
   ·exact List.mem_append_left _ h
 have new1:∀ (p:Nat) (xs:List Nat) (st:List (Nat×Nat)×List Nat) (k:Nat),k∈keys (xs.foldl (bN p) st).1->k∈keys st.1\/k∈(xs.foldl (bN p) st).2:=by
  intro p xs
  induction xs with
  | nil=>intro st k h;exact .inl h
  | cons x r ih =>
   intro st k h
   rw[List.foldl_cons]at h ⊢
   rcases ih _ k h with z | z
   ·unfold bN at z
    split at z
    ·exact .inl z
    ·rw[keys,List.map_append]at z
     rcases List.mem_append.mp z with y | y
     ·exact .inl y
     ·refine .inr (sub2 p r _ k ?_)
      unfold bN
      rename_i hk
      rw[af hk]
      have:k=x:=by simpa using y
      rw[this];exact aI _ (by simp)
   ·exact .inr z
 intro bu
 induction bu with
 | nil=>intro st k h;exact .inl h
 | cons e r ih =>
  intro st k h
  rw[List.foldl_cons]at h ⊢
  have sub:∀ (xs:List Nat) (st:List (Nat×Nat)×List Nat) (k:Nat),k∈st.2->k∈(xs.foldl (visit l) st).2:=by
   intro xs
   induction xs with
   | nil=>intro st k h;exact h
   | cons x r ih=>intro st k h;rw[List.foldl_cons];exact ih _ k (sub2 x _ st k h)
  rcases ih _ k h with z | z
  ·rcases new1 e _ st k z with y | y
   ·exact .inl y
   ·exact .inr (sub r _ k y)
  ·exact .inr z
theorem j7 {l:List (Nat×Nat)}{s:Nat}:∀ (m:Nat) (fd:List (Nat×Nat)) (bu:List Nat),BI (univ l s) (fd,bu)->(∀ k∈keys fd,k∈bu\/Done l fd k)->(bu≠[]->2*l.length+3<=m+fd.length) ->
  (∀ k∈keys (fM l m fd bu),Done l (fM l m fd bu) k)/\(∀ k∈keys fd,k∈keys (fM l m fd bu))/\BI (univ l s) (fM l m fd bu,[])
 | m,fd,[],bi,hd,_=>by
  have e:fM l m fd []=fd:=by cases m<;>rfl
  rw[e]
  exact⟨λ k hk=>(hd k hk).elim (λ z=>by cases z) id,λ k h=>h,⟨bi.nd,bi.sub,by simp⟩⟩
 | 0,fd,e::es,bi,hd,hf=>by
  have:=bi.le
  rw[jL]at this
  have h:=hf (by simp)
  have:fd.length<=2*l.length+1:=this
  omega
 | m+1,fd,e::es,bi,hd,hf=>by
  have hf:=hf (by simp)
  have bi':BI (univ l s) (fd,[]):=⟨bi.nd,bi.sub,by simp⟩
  have lb:=nU (bu:=e::es) bi'
  have ll:=pG (l:=l) (fd:=fd) (bu:=e::es)
  obtain⟨h1,h2,h3⟩:=j7 m (cY l fd (e::es)).1 (cY l fd (e::es)).2 ⟨lb.nd,lb.sub,lb.by'⟩ (λ k hk=>by
   rcases Cw (l:=l) (e::es) (fd,[]) k hk with z | z
   ·exact .inr (mS (fd:=fd) (e::es) (fd,[]) k (hd k z))
   ·exact .inl z) (λ hne=>by
   have:0<(cY l fd (e::es)).2.length:=List.length_pos_iff.mpr hne
   omega)
  exact⟨h1,λ k hk=>h2 k (ic (λ st p k hk=>mR st k hk) (e::es) (fd,[]) k hk),h3⟩
theorem GL {l:List (Nat×Nat)}{n:Nat}(ok:∀ p∈l,p.1<p.2/\p.2<n)(h0:0<n)(reach:∀ S:Nat->Prop,S 0->(∀ p∈l,S p.1↔S p.2)->∀ v,v<n->S v):(bfs l 0).length=n:=by
 obtain⟨h1,h2,h3⟩:=j7 (l:=l) (s:=0) (2*l.length+2) [(0,0)] [0] ⟨by simp,λ q hq=>by rw[List.mem_singleton.mp hq];exact ai,λ j hj=>by simpa using hj⟩ (λ k hk=>.inl (by simpa [keys] using hk)) (λ _=>by simp)
 have e:fM l (2*l.length+2) [(0,0)] [0]=bfs l 0:=rfl
 rw[e]at h1 h2 h3
 have sub:∀ k∈keys (bfs l 0),k∈List.range n:=λ k hk=>by
  obtain⟨q,hq,rfl⟩:=aA.mp hk
  rw[ay]
  have:=h3.sub q hq
  rcases ar.mp this with z | z
  ·rw[z];exact h0
  ·rcases List.mem_append.mp z with z | z<;>(obtain⟨p,hp,e⟩:=aA.mp z;have:=ok p hp;rw[<-e];omega)
 have all:=reach (λ v=>v∈keys (bfs l 0)) (h2 0 (by simp[keys])) λ p hp=>⟨λ h=>h1 _ h _ (j6.mpr (.inr hp)),λ h=>h1 _ h _ (j6.mpr (.inl hp))⟩
 have le1:(keys (bfs l 0)).length<=(List.range n).length:=aH h3.nd sub
 have le2:(List.range n).length<=(keys (bfs l 0)).length:=aH List.nodup_range λ v hv=>all v (ay.mp hv)
 rw[List.length_range]at le1 le2
 have:(keys (bfs l 0)).length=(bfs l 0).length:=by simp[keys]
 omega
theorem sR (p q:Nat×Nat):ly p q=true↔p.1<q.1\/(p.1=q.1/\p.2<q.2):=by
 unfold ly
 by_cases h1:(p.1:Int)=q.1
 ·have h1':p.1=q.1:=by omega
  by_cases h2:(p.2:Int)=q.2
  ·have h2':p.2=q.2:=by omega
   simp[HT.lexLt,h1,h2,h1',h2']
  ·simp[HT.lexLt,h1,h2,h1']
 ·have h1':¬ p.1=q.1:=by omega
  simp[HT.lexLt,h1,h1']
theorem Bm:∀ {l:List (Nat×Nat)},l.Pairwise (λ a b=>ly a b=true)->rise l=true
 | [],_=>rfl
 | [_],_=>rfl
 | a::b::r,h=>by
  have h1:=(List.pairwise_cons.mp h).1 b ai
  have ih:=Bm (List.pairwise_cons.mp h).2
  unfold rise at ih ⊢
  simp only[List.tail_cons,List.zip_cons_cons,List.all_cons,h1,Bool.true_and]at ih ⊢
  exact ih
theorem yt {l:List (Nat×Nat)}(h:l.Pairwise (λ a b=>ly a b=true)):l.Nodup:=by
 rw[List.nodup_iff_pairwise_ne]
 refine h.imp λ{a b} hab e=>?_
 subst e
 have:=(sR a a).mp hab
 omega
section
variable {m:Nat}{cl:List Nat}{tb te:List (Nat×Nat)}(D:Drawn m cl tb te)
include D
theorem Drawn.len:cl.length=m:=by rw[D.perm.length_eq,List.length_range]
theorem Drawn.lt {i:Nat}(h:i<m):cl.getD i 0<m:=by
 have hl:i<cl.length:=by rw[D.len];exact h
 rw[aD,aF hl]
 exact ay.mp (D.perm.mem_iff.mp (List.getElem_mem hl))
theorem Drawn.inj {i j:Nat}(hi:i<m)(hj:j<m)(e:cl.getD i 0=cl.getD j 0):i=j:=by
 have h1:i<cl.length:=by rw[D.len];exact hi
 have h2:j<cl.length:=by rw[D.len];exact hj
 rw[aD,aF h1,aD,aF h2]at e
 have nd:cl.Nodup:=D.perm.nodup_iff.mpr List.nodup_range
 exact(List.getElem_inj nd).mp e
theorem Drawn.sur {v:Nat}(h:v<m):∃ i,i<m/\cl.getD i 0=v:=by
 obtain⟨i,hi,e⟩:=List.getElem_of_mem (D.perm.mem_iff.mpr (ay.mpr h))
 exact⟨i,by rw[<-D.len];exact hi,by rw[aD,aF hi];exact e⟩
theorem Drawn.all {t:Nat×Nat}(h:t∈tb++te):t.1<m/\t.2<m/\t.1≠t.2:=by
 rcases List.mem_append.mp h with h | h
 ·obtain⟨k,hk,e⟩:=List.getElem_of_mem h
  have hk':k<m-1:=by rw[<-D.tbl];exact hk
  obtain⟨a,e1,ha⟩:=D.tbk k hk'
  rw[aF hk,e]at e1
  cases e1
  exact⟨by show a<m;omega,by show k+1<m;omega,by show a≠k+1;omega⟩
 ·exact D.teo t h
theorem Drawn.Lm {t:Nat×Nat}(h:t∈tb++te):(rel cl t).1<(rel cl t).2/\(rel cl t).2<m:=by
 obtain⟨h1,h2,h3⟩:=D.all h
 have l1:=D.lt h1
 have l2:=D.lt h2
 have ne:cl.getD t.1 0≠cl.getD t.2 0:=λ e=>h3 (D.inj h1 h2 e)
 unfold rel
 simp only
 omega
theorem GN {ss:List (Nat×Nat)}(hp:ss.Pairwise (λ a b=>ly a b=true))(hm:∀ t,t∈ss↔t∈(tb++te).map (rel cl)):Good (m,ss)/\(te=[]->ss.length+1=m):=by
 have m2:=D.m2
 have m8:=D.m8
 have nd:=yt hp
 have ok:∀ p∈ss,p.1<p.2/\p.2<m:=λ p h=>by
  obtain⟨t,ht,rfl⟩:=aA.mp ((hm p).mp h)
  exact D.Lm ht
 have len1:ss.length<=((tb++te).map (rel cl)).length:=aH nd λ t h=>(hm t).mp h
 have len2:ss.length<=30:=by
  have:=D.tel
  have:=D.tbl
  simp at len1
  omega
 have tie:∀ k,k<m-1->∃ a,a<=k/\(a,k+1)∈tb:=λ k hk=>by
  obtain⟨a,e,ha⟩:=D.tbk k hk
  exact⟨a,ha,List.mem_of_getElem? e⟩
 refine⟨⟨m2,m8,ok,Bm hp,?_,len2,?_⟩,λ hte=>?_⟩
 ·refine GL ok (by omega) λ S s0 cls v hv=>?_
  have step:∀ k,k<m-1->∃ a,a<=k/\(S (cl.getD a 0)↔S (cl.getD (k+1) 0)):=λ k hk=>by
   obtain⟨a,ha,mem⟩:=tie k hk
   refine⟨a,ha,?_⟩
   have h:=cls (rel cl (a,k+1)) ((hm _).mpr (aA.mpr ⟨_,List.mem_append_left _ mem,rfl⟩))
   unfold rel at h
   simp only at h
   by_cases hc:cl.getD a 0<=cl.getD (k+1) 0
   ·rw[Nat.min_eq_left hc,Nat.max_eq_right hc]at h;exact h
   ·rw[Nat.min_eq_right (by omega),Nat.max_eq_left (by omega)]at h;exact h.symm
  have con:∀ i,i<m->(S (cl.getD 0 0)↔S (cl.getD i 0)):=by
   intro i
   induction i using Nat.strongRecOn with
   | ind i ih =>
    intro hi
    cases i with
    | zero=>exact Iff.rfl
    | succ k =>
     obtain⟨a,ha,hs⟩:=step k (by omega)
     exact(ih a (by omega) (by omega)).trans hs
  obtain⟨i0,h0,e0⟩:=D.sur (v:=0) (by omega)
  obtain⟨i,hi,e⟩:=D.sur hv
  rw[<-e]
  refine(con i hi).mp ((con i0 h0).mpr ?_)
  rw[e0];exact s0
 ·obtain⟨a,_,mem⟩:=tie 0 (by omega)
  intro e
  have:=(hm (rel cl (a,0+1))).mpr (aA.mpr ⟨_,List.mem_append_left _ mem,rfl⟩)
  have e:ss=[]:=e
  rw[e]at this
  cases this
 ·subst hte
  rw[List.append_nil]at hm
  have ndr:(tb.map (rel cl)).Nodup:=by
   rw[List.nodup_iff_pairwise_ne,List.pairwise_map,List.pairwise_iff_getElem]
   intro i j hi hj hij e
   obtain⟨a,e1,ha⟩:=D.tbk i (by rw[<-D.tbl];exact hi)
   obtain⟨b,e2,hb⟩:=D.tbk j (by rw[<-D.tbl];exact hj)
   rw[aF hi]at e1
   rw[aF hj]at e2
   rw[ao e1,ao e2]at e
   have hi':i<m-1:=by rw[<-D.tbl];exact hi
   have hj':j<m-1:=by rw[<-D.tbl];exact hj
   unfold rel at e
   simp only[Prod.mk.injEq]at e
   have hc:(cl.getD a 0=cl.getD b 0/\cl.getD (i+1) 0=cl.getD (j+1) 0)\/(cl.getD a 0=cl.getD (j+1) 0/\cl.getD (i+1) 0=cl.getD b 0):=by omega
   rcases hc with⟨c1,c2⟩ | ⟨c1,c2⟩
   ·have:=D.inj (by omega) (by omega) c2;omega
   ·have:=D.inj (by omega) (by omega) c1
    have:=D.inj (by omega) (by omega) c2
    omega
  have le2:(tb.map (rel cl)).length<=ss.length:=aH ndr λ t h=>(hm t).mpr h
  have:=D.tbl
  simp at len1 le2
  show ss.length+1=m
  omega
end
end L2
namespace L2
open PySem PySem.Spec PyProof.Rows Zp Qs
theorem z5 {a b c:Nat×Nat}(h1:ly a b=true)(h2:ly b c=true):ly a c=true:=by
 rw[sR]at *;omega
theorem nW:∀ {l:List (Nat×Nat)},rise l=true->l.Pairwise (λ a b=>ly a b=true)
 | [],_=>.nil
 | [a],_=>List.pairwise_singleton _ _
 | a::b::r,h=>by
  have h':(ly a b&&rise (b::r))=true:=h
  rw[Bool.and_eq_true]at h'
  have ih:=nW h'.2
  refine List.pairwise_cons.mpr ⟨λ c hc=>?_,ih⟩
  rcases ar.mp hc with rfl | hc
  ·exact h'.1
  ·exact z5 h'.1 ((List.pairwise_cons.mp ih).1 c hc)
section
variable {w:Web}(g:Good w)
include g
theorem Good.nd:w.2.Nodup:=yt (nW g.rise)
theorem Good.uS (p:Nat):(nb w.2 p).Nodup:=by
 rw[(qR w.2 p).nodup_iff,List.nodup_append]
 have inj1:((w.2.filter λ t=>t.2==p).map (·.1)).Nodup:=by
  rw[List.nodup_iff_pairwise_ne,List.pairwise_map]
  have:=List.nodup_iff_pairwise_ne.mp (g.nd.filter λ t=>t.2==p)
  refine List.Pairwise.imp_of_mem ?_ this
  intro a b ha hb hab e
  have h1:a.2=p:=by simpa using (List.mem_filter.mp ha).2
  have h2:b.2=p:=by simpa using (List.mem_filter.mp hb).2
  exact hab (Prod.ext e (h1.trans h2.symm))
 have inj2:((w.2.filter λ t=>t.1==p).map (·.2)).Nodup:=by
  rw[List.nodup_iff_pairwise_ne,List.pairwise_map]
  have:=List.nodup_iff_pairwise_ne.mp (g.nd.filter λ t=>t.1==p)
  refine List.Pairwise.imp_of_mem ?_ this
  intro a b ha hb hab e
  have h1:a.1=p:=by simpa using (List.mem_filter.mp ha).2
  have h2:b.1=p:=by simpa using (List.mem_filter.mp hb).2
  exact hab (Prod.ext (h1.trans h2.symm) e)
 refine⟨inj1,inj2,λ x hx y hy e=>?_⟩
 obtain⟨t,ht,rfl⟩:=aA.mp hx
 obtain⟨u,hu,rfl⟩:=aA.mp hy
 have h1:t.2=p:=by simpa using (List.mem_filter.mp ht).2
 have h2:u.1=p:=by simpa using (List.mem_filter.mp hu).2
 have:=g.ok t (List.mem_filter.mp ht).1
 have:=g.ok u (List.mem_filter.mp hu).1
 omega
theorem Good.cq {p j:Nat}(h:j∈nb w.2 p):j<w.1/\p<w.1/\j≠p:=by
 rcases j6.mp h with h | h
 ·have:=g.ok _ h;simp at this;omega
 ·have:=g.ok _ h;simp at this;omega
omit g in
theorem jy {l:List (Nat×Nat)}{p j:Nat}:j∈nb l p↔p∈nb l j:=by rw[j6,j6];exact Or.comm
theorem Good.JB (p:Nat)(hp:p<w.1):(nb w.2 p).length<=7:=by
 have h:(p::nb w.2 p).Nodup:=List.nodup_cons.mpr ⟨λ m=>(g.cq m).2.2 rfl,g.uS p⟩
 have:=aH h (l₂:=List.range w.1) λ x hx=>by
  rcases ar.mp hx with rfl | hx
  ·exact ay.mpr hp
  ·exact ay.mpr (g.cq hx).1
 simp at this
 have:=g.da
 omega
end
theorem yu {l:List (Nat×Nat)}{s:Nat}:∀ (m:Nat) (fd:List (Nat×Nat)) (bu:List Nat),(∀ k∈keys fd,k=s\/∃ q,k∈nb l q)->∀ k∈keys (fM l m fd bu),k=s\/∃ q,k∈nb l q
 | 0,fd,_,h=>h
 | _+1,fd,[],h=>h
 | m+1,fd,e::es,h=>by
  refine yu m _ _ λ k hk=>?_
  have v1:∀ (p:Nat) (xs:List Nat) (st:List (Nat×Nat)×List Nat),(∀ x∈xs,∃ q,x∈nb l q)->(∀ k∈keys st.1,k=s\/∃ q,k∈nb l q)->∀ k∈keys (xs.foldl (bN p) st).1,k=s\/∃ q,k∈nb l q:=by
   intro p xs
   induction xs with
   | nil=>intro st _ h;exact h
   | cons x r ih =>
    intro st hx h
    rw[List.foldl_cons]
    refine ih _ (λ y hy=>hx y (ak _ hy)) λ k hk=>?_
    unfold bN at hk
    split at hk
    ·exact h k hk
    ·rw[keys,List.map_append]at hk
     rcases List.mem_append.mp hk with z | z
     ·exact h k z
     ·have:k=x:=by simpa using z
      rw[this];exact .inr (hx x ai)
  have v2:∀ (es:List Nat) (st:List (Nat×Nat)×List Nat),(∀ k∈keys st.1,k=s\/∃ q,k∈nb l q)->∀ k∈keys (es.foldl (visit l) st).1,k=s\/∃ q,k∈nb l q:=by
   intro es
   induction es with
   | nil=>intro st h;exact h
   | cons x r ih=>intro st h;rw[List.foldl_cons];exact ih _ (v1 x _ st (λ y hy=>⟨x,hy⟩) h)
  exact v2 (e::es) (fd,[]) h k hk
theorem Good.vU {w:Web}(g:Good w)(p:Nat)(hp:p<w.1):0<(nb w.2 p).length:=by
 obtain⟨h1,h2,h3⟩:=j7 (l:=w.2) (s:=0) (2*w.2.length+2) [(0,0)] [0] ⟨by simp,λ q hq=>by rw[List.mem_singleton.mp hq];exact ai,λ j hj=>by simpa using hj⟩ (λ k hk=>.inl (by simpa [keys] using hk)) (λ _=>by simp)
 have e:fM w.2 (2*w.2.length+2) [(0,0)] [0]=bfs w.2 0:=rfl
 rw[e]at h1 h2 h3
 have fn:=yu (l:=w.2) (s:=0) (2*w.2.length+2) [(0,0)] [0] (λ k hk=>.inl (by simpa [keys] using hk))
 rw[e]at fn
 have two:=g.two
 have all:∀ v,v<w.1->v∈keys (bfs w.2 0):=λ v hv=>by
  refine aJ λ hn=>?_
  have nd:(v::keys (bfs w.2 0)).Nodup:=List.nodup_cons.mpr ⟨hn,h3.nd⟩
  have:=aH nd (l₂:=List.range w.1) λ x hx=>by
   rcases ar.mp hx with rfl | hx
   ·exact ay.mpr hv
   ·rcases fn x hx with z | ⟨q,hq⟩
    ·rw[z];exact ay.mpr (by omega)
    ·exact ay.mpr (g.cq hq).1
  have hl:(keys (bfs w.2 0)).length=w.1:=by rw[keys,ah];exact g.all
  simp[hl]at this
  omega
 have some':∀ v,v<w.1->v≠0->0<(nb w.2 v).length:=λ v hv h0=>by
  rcases fn v (all v hv) with z | ⟨q,hq⟩
  ·exact absurd z h0
  ·exact List.length_pos_of_mem (jy.mp hq)
 by_cases h0:p=0
 ·subst h0
  refine aJ λ hn=>?_
  have hnil:nb w.2 0=[]:=List.length_eq_zero_iff.mp (by omega)
  have hb:bfs w.2 0=[(0,0)]:=by
   have:cY w.2 [(0,0)] [0]=([(0,0)],[]):=by show visit w.2 ([(0,0)],[]) 0=_;unfold visit;rw[hnil];rfl
   show fM w.2 ((2*w.2.length+1)+1) [(0,0)] [0]=_
   show fM w.2 (2*w.2.length+1) (cY w.2 [(0,0)] [0]).1 (cY w.2 [(0,0)] [0]).2=_
   rw[this];rfl
  have:=g.all
  rw[hb]at this
  simp at this
  omega
 ·exact some' p hp h0
noncomputable def adj (w:Web)(b j:Nat):Nat:=if j∈nb w.2 b then 1 else 0
section
variable {w:Web}(g:Good w)
include g
noncomputable def dg (w:Web)(j:Nat):Nat:=(nb w.2 j).length
noncomputable def wt (w:Web)(j:Nat):Nat:=420 / dg w j
noncomputable abbrev ch (w:Web)(k a b:Nat):Nat:=it w.1 (adj w) (wt w) k a b
theorem Good.hand:S w.1 (λ p=>dg w p)=2*w.2.length:=by
 have e:∀ p,dg w p=(w.2.filter λ t=>t.2==p).length+(w.2.filter λ t=>t.1==p).length:=λ p=>by
  unfold dg;rw[(qR w.2 p).length_eq,List.length_append,ah,ah]
 rw[qK λ p _=>e p,CS]
 have cnt:∀ (f:Nat×Nat->Nat) (l:List (Nat×Nat)),(∀ t∈l,f t<w.1)->S w.1 (λ p=>(l.filter λ t=>f t==p).length)=l.length:=by
  intro f l
  induction l with
  | nil=>intro _;simp[wU]
  | cons t r ih =>
   intro h
   rw[List.length_cons,<-ih λ u hu=>h u (ak _ hu),<-Hn (h t ai) (λ _=>1),<-CS]
   refine qK λ p _=>?_
   by_cases hp:f t=p
   ·have:(f t==p)=true:=by simpa using hp
    rw[List.filter_cons_of_pos (by simpa using hp),ae hp.symm];simp
   ·rw[List.filter_cons_of_neg (by simpa using hp),af (Ne.symm hp)];simp
 rw[cnt (·.2) w.2 λ t ht=>(g.ok t ht).2,cnt (·.1) w.2 λ t ht=>by have:=g.ok t ht;omega]
 omega
end
structure Bn (l:List (Nat×Nat))(s c:Nat)(fd:List (Nat×Nat))(bu:List Nat):Prop where
 start:(s,0)∈fd
 nd:(keys fd).Nodup
 le:∀ q∈fd,q.2<=c
 bu:∀ v,v∈bu↔(v,c)∈fd
 cl:∀ q∈fd,q.2<c->∀ u∈nb l q.1,∃ d,(u,d)∈fd/\d<=q.2+1
 par:∀ q∈fd,(q.2=0/\q.1=s)\/∃ u d,(u,d)∈fd/\q.2=d+1/\q.1∈nb l u
 ord:fd.Pairwise (λ a b=>a.2<=b.2)
theorem iN:∀ {fd:List (Nat×Nat)} {v d:Nat},(keys fd).Nodup->(v,d)∈fd->look fd v=d
 | q::r,v,d,nd,h=>by
  obtain⟨k,e⟩:=q
  have nd:(k::keys r).Nodup:=nd
  rw[List.nodup_cons]at nd
  by_cases hk:v=k
  ·subst hk
   rcases ar.mp h with h | h
   ·cases h;simp[look,List.lookup]
   ·exact absurd (aA.mpr ⟨_,h,rfl⟩) nd.1
  ·rcases ar.mp h with h | h
   ·cases h;exact absurd rfl hk
   ·have:=iN nd.2 h
    unfold look at this ⊢
    rw[List.lookup_cons]
    have:(v==k)=false:=by simpa using hk
    rw[this];assumption
theorem EB {fd:List (Nat×Nat)}{v:Nat}(nd:(keys fd).Nodup)(h:v∈keys fd):(v,look fd v)∈fd:=by
 obtain⟨⟨a,b⟩,hq,rfl⟩:=aA.mp h
 rw[iN nd hq];exact hq
structure Mid (l:List (Nat×Nat))(c:Nat)(fd:List (Nat×Nat))(st:List (Nat×Nat)×List Nat)(nw:List (Nat×Nat)):Prop where
 eq:st.1=fd++nw
 by':st.2=nw.map (·.1)
 nd:(keys st.1).Nodup
 val:∀ q∈nw,q.2=c+1/\∃ u,(u,c)∈fd/\q.1∈nb l u
set_option tactic.hygienic true in
theorem Mid.one {l:List (Nat×Nat)}{c:Nat}{fd:List (Nat×Nat)}{st:List (Nat×Nat)×List Nat}{nw:List (Nat×Nat)}(h:Mid l c fd st nw){p j:Nat}(hp:(p,c)∈fd)(hj:j∈nb l p):∃ nw',Mid l c fd (bN p st j) nw':=by
 unfold bN
 split
 ·exact⟨nw,h⟩
 ·rename_i hk
  have hk:j∉keys st.1:=λ m=>hk ((ib _ _).mpr m)
  have e:look st.1 p=c:=iN h.nd (by rw[h.eq];exact List.mem_append_left _ hp)
  refine⟨nw++[(j,look st.1 p+1)],⟨?_,?_,?_,?_⟩⟩
  ·show st.1++_=_
   rw[h.eq,List.append_assoc]
  ·show st.2++[j]=_
   rw[h.by',List.map_append];rfl
  ·show(keys (st.1++_)).Nodup
   rw[keys,List.map_append]
   exact vn h.nd hk
  ·intro q hq
   rcases List.mem_append.mp hq with z | z
   ·exact h.val q z
   ·rw[List.mem_singleton.mp z,e];exact⟨rfl,p,hp,hj⟩
theorem Mid.vis {l:List (Nat×Nat)}{c:Nat}{fd:List (Nat×Nat)}{p:Nat}(hp:(p,c)∈fd):∀ (xs:List Nat) (st:List (Nat×Nat)×List Nat) (nw:List (Nat×Nat)),(∀ j∈xs,j∈nb l p)->Mid l c fd st nw->∃ nw',Mid l c fd (xs.foldl (bN p) st) nw'
 | [],st,nw,_,h=>⟨nw,h⟩
 | x::r,st,nw,hx,h=>by
  obtain⟨nw',h'⟩:=h.one hp (hx x ai)
  exact Mid.vis hp r _ nw' (λ j hj=>hx j (ak _ hj)) h'
theorem Mid.lay {l:List (Nat×Nat)}{c:Nat}{fd:List (Nat×Nat)}:∀ (es:List Nat) (st:List (Nat×Nat)×List Nat) (nw:List (Nat×Nat)),(∀ p∈es,(p,c)∈fd)->Mid l c fd st nw->∃ nw',Mid l c fd (es.foldl (visit l) st) nw'
 | [],st,nw,_,h=>⟨nw,h⟩
 | x::r,st,nw,hx,h=>by
  obtain⟨nw',h'⟩:=Mid.vis (hx x ai) (nb l x) st nw (λ _ h=>h) h
  exact Mid.lay r _ nw' (λ j hj=>hx j (ak _ hj)) h'
theorem Bn.step {l:List (Nat×Nat)}{s c:Nat}{fd:List (Nat×Nat)}{bu:List Nat}(h:Bn l s c fd bu):Bn l s (c+1) (cY l fd bu).1 (cY l fd bu).2:=by
 obtain⟨nw,m⟩:=Mid.lay bu (fd,[]) [] (λ p hp=>(h.bu p).mp hp) ⟨by simp,rfl,h.nd,λ q hq=>by cases hq⟩
 have m:Mid l c fd (cY l fd bu) nw:=m
 have dn:=λ k (hk:k∈bu)=>mS (l:=l) (fd:=fd) bu (fd,[]) k (.inl hk)
 have dn:∀ k∈bu,Done l (cY l fd bu).1 k:=dn
 have mem:∀ q,q∈(cY l fd bu).1↔q∈fd\/q∈nw:=λ q=>by rw[m.eq,List.mem_append]
 have le1:∀ q∈(cY l fd bu).1,q.2<=c+1:=λ q hq=>by
  rcases (mem q).mp hq with z | z
  ·have:=h.le q z;omega
  ·have:=(m.val q z).1;omega
 refine⟨(mem _).mpr (.inl h.start),m.nd,le1,λ v=>?_,λ q hq lt u hu=>?_,λ q hq=>?_,?_⟩
 ·rw[m.by',aA]
  constructor
  ·rintro⟨q,hq,rfl⟩
   have:=(m.val q hq).1
   rw[<-this];exact(mem _).mpr (.inr hq)
  ·intro hv
   rcases (mem _).mp hv with z | z
   ·have:=h.le _ z;simp at this;omega
   ·exact⟨_,z,rfl⟩
 ·rcases (mem q).mp hq with z | z
  ·by_cases hc:q.2<c
   ·obtain⟨d,hd,hle⟩:=h.cl q z hc u hu
    exact⟨d,(mem _).mpr (.inl hd),hle⟩
   ·have e:q.2=c:=by have:=h.le q z;omega
    have hk:q.1∈bu:=(h.bu _).mpr (by rw[<-e];exact z)
    have:=dn q.1 hk u hu
    obtain⟨q',hq',rfl⟩:=aA.mp this
    exact⟨q'.2,hq',by rw[e];exact le1 q' hq'⟩
  ·have:=(m.val q z).1;omega
 ·rcases (mem q).mp hq with z | z
  ·rcases h.par q z with y | ⟨u,d,h1,h2,h3⟩
   ·exact .inl y
   ·exact .inr ⟨u,d,(mem _).mpr (.inl h1),h2,h3⟩
  ·obtain⟨e,u,hu,hn⟩:=m.val q z
   exact .inr ⟨u,c,(mem _).mpr (.inl hu),e,hn⟩
 ·rw[m.eq,List.pairwise_append]
  refine⟨h.ord,?_,λ a ha b hb=>?_⟩
  ·rw[List.pairwise_iff_getElem]
   intro i j hi hj _
   have:=(m.val _ (List.getElem_mem hi)).1
   have:=(m.val _ (List.getElem_mem hj)).1
   omega
  ·have:=h.le a ha
   have:=(m.val b hb).1
   omega
structure Far (l:List (Nat×Nat))(s:Nat)(fd:List (Nat×Nat)):Prop where
 start:(s,0)∈fd
 nd:(keys fd).Nodup
 cl:∀ q∈fd,∀ u∈nb l q.1,∃ d,(u,d)∈fd/\d<=q.2+1
 par:∀ q∈fd,(q.2=0/\q.1=s)\/∃ u d,(u,d)∈fd/\q.2=d+1/\q.1∈nb l u
 ord:fd.Pairwise (λ a b=>a.2<=b.2)
theorem uT {l:List (Nat×Nat)}{s:Nat}:∀ (m c:Nat) (fd:List (Nat×Nat)) (bu:List Nat),BI (univ l s) (fd,bu)->Bn l s c fd bu->(bu≠[]->2*l.length+3<=m+fd.length)->Far l s (fM l m fd bu)
 | m,c,fd,[],bi,h,_=>by
  have e:fM l m fd []=fd:=by cases m<;>rfl
  rw[e]
  exact⟨h.start,h.nd,λ q hq=>h.cl q hq (by
   have:=h.le q hq
   rcases Nat.lt_or_ge q.2 c with z | z
   ·exact z
   ·have e:q.2=c:=by omega
    have:=(h.bu q.1).mpr (by rw[<-e];exact hq)
    cases this),h.par,h.ord⟩
 | 0,c,fd,e::es,bi,h,hf=>by
  have:=bi.le
  rw[jL]at this
  have h:=hf (by simp)
  have:fd.length<=2*l.length+1:=this
  omega
 | m+1,c,fd,e::es,bi,h,hf=>by
  have hf:=hf (by simp)
  have bi':BI (univ l s) (fd,[]):=⟨bi.nd,bi.sub,by simp⟩
  have lb:=nU (bu:=e::es) bi'
  have ll:=pG (l:=l) (fd:=fd) (bu:=e::es)
  exact uT m (c+1) (cY l fd (e::es)).1 (cY l fd (e::es)).2 ⟨lb.nd,lb.sub,lb.by'⟩ h.step (λ hne=>by
   have:0<(cY l fd (e::es)).2.length:=List.length_pos_iff.mpr hne
   omega)
theorem ee (l:List (Nat×Nat))(s:Nat):Far l s (bfs l s):=by
 refine uT (2*l.length+2) 0 [(s,0)] [s] ⟨by simp,λ q hq=>by rw[List.mem_singleton.mp hq];exact ai,λ j hj=>by simpa using hj⟩ ?_ (λ _=>by simp)
 refine⟨by simp,by simp[keys],λ q hq=>by simp at hq;rw[hq];simp,λ v=>by simp,λ q hq lt=>by omega,λ q hq=>by simp at hq;rw[hq];simp,by simp⟩
theorem Far.sub {l:List (Nat×Nat)}{s:Nat}{fd:List (Nat×Nat)}(f:Far l s fd)(S:Nat->Prop)(s0:S s)(cl:∀ u v,v∈nb l u->S u->S v):∀ (d v:Nat),(v,d)∈fd->S v
 | 0,v,h=>by
  rcases f.par _ h with⟨_,e⟩ | ⟨u,d,_,e,_⟩
  ·rw[show v=s from e];exact s0
  ·simp at e
 | d+1,v,h=>by
  rcases f.par _ h with⟨e,_⟩ | ⟨u,d',h1,e,hn⟩
  ·simp at e
  ·simp at e;subst e
   exact cl u v hn (Far.sub f S s0 cl d u h1)
section
variable {w:Web}(g:Good w)
include g
theorem Good.Ln {v:Nat}(hv:v<w.1):v∈keys (bfs w.2 0):=by
 have f:=ee w.2 0
 have sub:∀ k∈keys (bfs w.2 0),k∈List.range w.1:=λ k hk=>by
  obtain⟨q,hq,rfl⟩:=aA.mp hk
  rw[ay]
  exact f.sub (λ v=>v<w.1) (by have:=g.two;omega) (λ u v h _=>(g.cq h).1) q.2 q.1 hq
 have len:(keys (bfs w.2 0)).length=w.1:=by rw[keys,ah];exact g.all
 refine aJ λ hn=>?_
 have:(v::keys (bfs w.2 0)).Nodup:=List.nodup_cons.mpr ⟨hn,f.nd⟩
 have:=aH this (l₂:=List.range w.1) (λ k hk=>by
  rcases ar.mp hk with rfl | hk
  ·exact ay.mpr hv
  ·exact sub k hk)
 simp[len]at this;omega
theorem Good.conn (S:Nat->Prop)(cl:∀ u v,v∈nb w.2 u->S u->S v){u v:Nat}(hu:u<w.1)(hv:v<w.1)(h:S u):S v:=by
 have f:=ee w.2 0
 have go:∀ (T:Nat->Prop),(∀ u v,v∈nb w.2 u->T u->T v)->T 0->∀ v,v<w.1->T v:=λ T c t0 v hv=>by
  obtain⟨q,hq,rfl⟩:=aA.mp (g.Ln hv)
  exact f.sub T t0 c q.2 q.1 hq
 have z:S 0:=aJ λ hn=>go (λ v=>¬ S v) (λ a b hb ha sb=>ha (cl b a (jy.mp hb) sb)) hn u hu h
 exact go S cl z v hv
theorem Good.inKeys {s v:Nat}(hs:s<w.1):v∈keys (bfs w.2 s)↔v<w.1:=by
 have f:=ee w.2 s
 constructor
 ·intro h
  obtain⟨q,hq,rfl⟩:=aA.mp h
  exact f.sub (λ v=>v<w.1) hs (λ u v h _=>(g.cq h).1) q.2 q.1 hq
 ·intro hv
  refine g.conn (λ v=>v∈L2.keys (bfs w.2 s)) (λ u v hv hu=>?_) hs hv (aA.mpr ⟨_,f.start,rfl⟩)
  obtain⟨q,hq,rfl⟩:=aA.mp hu
  obtain⟨d,hd,_⟩:=f.cl q hq v hv
  exact aA.mpr ⟨_,hd,rfl⟩
end
noncomputable def ds (l:List (Nat×Nat))(s v:Nat):Nat:=look (bfs l s) v
section
variable {w:Web}(g:Good w)
include g
omit g in
theorem dM (l:List (Nat×Nat))(s:Nat):ds l s s=0:=iN (ee l s).nd (ee l s).start
theorem Good.z6 {s v:Nat}(hs:s<w.1)(hv:v<w.1):(v,ds w.2 s v)∈bfs w.2 s:=EB (ee _ _).nd ((g.inKeys hs).mpr hv)
theorem Good.Bo {s u v:Nat}(hs:s<w.1)(h:v∈nb w.2 u):ds w.2 s v<=ds w.2 s u+1:=by
 obtain⟨d,hd,hle⟩:=(ee w.2 s).cl _ (g.z6 hs (g.cq h).2.1) v h
 have:ds w.2 s v=d:=iN (ee _ _).nd hd
 omega
theorem Good.gW {s v:Nat}(hs:s<w.1)(hv:v<w.1)(ne:v≠s):∃ u,v∈nb w.2 u/\ds w.2 s v=ds w.2 s u+1:=by
 rcases (ee w.2 s).par _ (g.z6 hs hv) with⟨_,e⟩ | ⟨u,d,h1,h2,h3⟩
 ·exact absurd e ne
 ·refine⟨u,h3,?_⟩
  rw[show ds w.2 s u=d from iN (ee _ _).nd h1];exact h2
theorem Good.lX {s v:Nat}(hs:s<w.1)(hv:v<w.1)(h:ds w.2 s v=0):v=s :=
 aJ λ ne=>by obtain⟨u,_,e⟩:=g.gW hs hv ne;omega
theorem Good.EC {s:Nat}(hs:s<w.1)(F:Nat->Nat)(f0:F s=0)(fs:∀ u v,v∈nb w.2 u->F v<=F u+1):∀ v,v<w.1->F v<=ds w.2 s v:=by
 have go:∀ d v,v<w.1->ds w.2 s v=d->F v<=d:=by
  intro d
  induction d with
  | zero=>intro v hv e;rw[g.lX hs hv e,f0];exact ag _
  | succ d ih =>
   intro v hv e
   obtain⟨u,hu,e'⟩:=g.gW hs hv (λ z=>by rw[z,dM]at e;omega)
   have:=ih u (g.cq hu).2.1 (by omega)
   have:=fs u v hu
   omega
 intro v hv
 exact go _ v hv rfl
theorem Good.JC {a b c:Nat}(ha:a<w.1)(hb:b<w.1)(hc:c<w.1):ds w.2 a c<=ds w.2 a b+ds w.2 b c:=by
 have:=g.EC hb (λ v=>ds w.2 a v-ds w.2 a b) (by simp) (λ u v h=>by have:=g.Bo ha h;omega) c hc
 omega
theorem Good.uU {a b:Nat}(ha:a<w.1)(hb:b<w.1):ds w.2 b a<=ds w.2 a b:=by
 have go:∀ d v,v<w.1->ds w.2 a v=d->ds w.2 v a<=d:=by
  intro d
  induction d with
  | zero=>intro v hv e;rw[g.lX ha hv e,dM];exact ag _
  | succ d ih =>
   intro v hv e
   obtain⟨u,hu,e'⟩:=g.gW ha hv (λ z=>by rw[z,dM]at e;omega)
   have hul:=(g.cq hu).2.1
   have h1:=ih u hul (by omega)
   have h2:=g.JC hv hul ha
   have h3:=g.Bo hv (jy.mp hu)
   rw[dM]at h3
   omega
 exact go _ b hb rfl
theorem Good.vV {a b:Nat}(ha:a<w.1)(hb:b<w.1):ds w.2 a b=ds w.2 b a:=Nat.le_antisymm (g.uU hb ha) (g.uU ha hb)
theorem Good.ED {a b:Nat}(ha:a<w.1)(hb:b<w.1):ds w.2 a b=1↔b∈nb w.2 a:=by
 constructor
 ·intro h
  obtain⟨u,hu,e⟩:=g.gW ha hb (λ z=>by rw[z,dM]at h;omega)
  have:u=a:=g.lX ha (g.cq hu).2.1 (by omega)
  rw[<-this];exact hu
 ·intro h
  have h1:=g.Bo ha h
  rw[dM]at h1
  have h2:ds w.2 a b≠0:=λ e=>(g.cq h).2.2 (g.lX ha hb e)
  omega
end
noncomputable def eX (a b:Nat):Nat×Nat:=(min a b,max a b)
theorem uV (a b:Nat):eX a b=eX b a:=by unfold eX;rw[Nat.min_comm,Nat.max_comm]
theorem sU {a b c d:Nat}(h:eX a b=eX c d):(a=c/\b=d)\/(a=d/\b=c):=by
 unfold eX at h;simp only[Prod.mk.injEq]at h;omega
theorem yv {α:Type}{a b:List α}(nd:a.Nodup)(sub:∀ x∈a,x∈b)(len:b.length<=a.length):∀ x∈b,x∈a:=λ x hx=>aJ λ hn=>by
 have:=aH (List.nodup_cons.mpr ⟨hn,nd⟩) (l₂:=b) (λ y hy=>by
  rcases ar.mp hy with rfl | hy
  ·exact hx
  ·exact sub y hy)
 simp at this;omega
section
variable {w:Web}(g:Good w)
include g
theorem Good.sV {u v:Nat}:v∈nb w.2 u↔eX u v∈w.2:=by
 rw[j6]
 unfold eX
 constructor
 ·rintro (h | h)
  ·have:=g.ok _ h;simp at this
   rw[Nat.min_eq_right (by omega),Nat.max_eq_left (by omega)];exact h
  ·have:=g.ok _ h;simp at this
   rw[Nat.min_eq_left (by omega),Nat.max_eq_right (by omega)];exact h
 ·intro h
  rcases Nat.le_total u v with z | z
  ·rw[Nat.min_eq_left z,Nat.max_eq_right z]at h;exact .inr h
  ·rw[Nat.min_eq_right z,Nat.max_eq_left z]at h;exact .inl h
variable (tr:w.2.length+1=w.1)
include tr
theorem Good.yw {b:Nat}(hb:b<w.1):∃ par:Nat->Nat,(∀ v,v<w.1->v≠b->v∈nb w.2 (par v)/\ds w.2 b v=ds w.2 b (par v)+1)/\∀ u v,v∈nb w.2 u->(v≠b/\u=par v)\/(u≠b/\v=par u):=by
 have hx:∀ v,∃ u,v<w.1->v≠b->v∈nb w.2 u/\ds w.2 b v=ds w.2 b u+1:=λ v=>by
  by_cases h:v<w.1/\v≠b
  ·obtain⟨u,hu⟩:=g.gW hb h.1 h.2
   exact⟨u,λ _ _=>hu⟩
  ·exact⟨0,λ h1 h2=>absurd ⟨h1,h2⟩ h⟩
 obtain⟨par,hp⟩:=Classical.axiomOfChoice hx
 have hp:∀ v,v<w.1->v≠b->v∈nb w.2 (par v)/\ds w.2 b v=ds w.2 b (par v)+1:=hp
 refine⟨par,hp,?_⟩
 have vs:∀ v,v∈(List.range w.1).filter (λ v=>v != b)↔v<w.1/\v≠b:=λ v=>by simp[List.mem_filter]
 have nd0:((List.range w.1).filter (λ v=>v != b)).Nodup:=List.nodup_range.filter _
 have len0:w.1<=((List.range w.1).filter (λ v=>v != b)).length+1:=by
  have:=aH (List.nodup_range (n:=w.1)) (l₂:=b::(List.range w.1).filter (λ v=>v != b)) (λ v hv=>by
   by_cases e:v=b
   ·rw[e];exact ai
   ·exact ak _ ((vs v).mpr ⟨ay.mp hv,e⟩))
  simpa using this
 have nd1:(((List.range w.1).filter (λ v=>v != b)).map λ v=>eX (par v) v).Nodup:=by
  rw[List.nodup_iff_pairwise_ne,List.pairwise_map]
  refine List.Pairwise.imp_of_mem ?_ (List.nodup_iff_pairwise_ne.mp nd0)
  intro x y hx hy ne e
  obtain⟨x1,x2⟩:=(vs x).mp hx
  obtain⟨y1,y2⟩:=(vs y).mp hy
  rcases sU e with⟨_,z⟩ | ⟨z1,z2⟩
  ·exact ne z
  ·have h1:=(hp x x1 x2).2
   have h2:=(hp y y1 y2).2
   rw[z1]at h1;rw[<-z2]at h2;omega
 have full:=yv nd1 (b:=w.2) (λ t ht=>by
  obtain⟨v,hv,rfl⟩:=aA.mp ht
  obtain⟨h1,h2⟩:=(vs v).mp hv
  exact g.sV.mp (hp v h1 h2).1) (by rw[ah];omega)
 intro u v h
 obtain⟨x,hx,e⟩:=aA.mp (full _ (g.sV.mp h))
 obtain⟨h1,h2⟩:=(vs x).mp hx
 rcases sU e with⟨z1,z2⟩ | ⟨z1,z2⟩
 ·exact .inl ⟨z2▸h2,by rw[<-z1,z2]⟩
 ·exact .inr ⟨z2▸h2,by rw[<-z1,z2]⟩
theorem Good.pH {b u v:Nat}(hb:b<w.1)(h:v∈nb w.2 u):ds w.2 b v=ds w.2 b u+1\/ds w.2 b u=ds w.2 b v+1:=by
 obtain⟨par,hp,ht⟩:=g.yw tr hb
 rcases ht u v h with⟨n,e⟩ | ⟨n,e⟩
 ·have:=(hp v (g.cq h).1 n).2;rw[<-e]at this;exact .inl this
 ·have:=(hp u (g.cq h).2.1 n).2;rw[<-e]at this;exact .inr this
theorem Good.uW {b u u' v:Nat}(hb:b<w.1)(h:u∈nb w.2 v)(h':u'∈nb w.2 v)(lt:ds w.2 b u<ds w.2 b v)(lt':ds w.2 b u'<ds w.2 b v):u=u':=by
 obtain⟨par,hp,ht⟩:=g.yw tr hb
 have go:∀ u,u∈nb w.2 v->ds w.2 b u<ds w.2 b v->u=par v:=λ u h lt=>by
  rcases ht v u h with⟨n,e⟩ | ⟨n,e⟩
  ·have:=(hp u (g.cq h).1 n).2;rw[<-e]at this;omega
  ·exact e
 rw[go u h lt,go u' h' lt']
end
noncomputable def nx (l:List (Nat×Nat))(b v:Nat):Nat:=((nb l v).filter (λ u=>decide (ds l b u<ds l b v))).headD 0
section
variable {w:Web}(g:Good w)
include g
theorem Good.nX {b v:Nat}(hb:b<w.1)(hv:v<w.1)(ne:v≠b):nx w.2 b v∈nb w.2 v/\ds w.2 b v=ds w.2 b (nx w.2 b v)+1/\((nb w.2 v).filter (λ u=>decide (ds w.2 b u<ds w.2 b v)))≠[]:=by
 obtain⟨u,hu,e⟩:=g.gW hb hv ne
 have hm:u∈(nb w.2 v).filter (λ u=>decide (ds w.2 b u<ds w.2 b v)):=List.mem_filter.mpr ⟨jy.mp hu,by simp;omega⟩
 have hne:((nb w.2 v).filter (λ u=>decide (ds w.2 b u<ds w.2 b v)))≠[]:=List.ne_nil_of_mem hm
 have hh:nx w.2 b v∈(nb w.2 v).filter (λ u=>decide (ds w.2 b u<ds w.2 b v)):=by
  unfold nx
  match (nb w.2 v).filter (λ u=>decide (ds w.2 b u<ds w.2 b v)),hne with
  | x::r,_=>exact ai
 obtain⟨h1,h2⟩:=List.mem_filter.mp hh
 have h2:ds w.2 b (nx w.2 b v)<ds w.2 b v:=by simpa using h2
 have:=g.Bo hb (jy.mp h1)
 exact⟨h1,by omega,hne⟩
theorem Good.Lo {b v:Nat}(hb:b<w.1)(hv:v<w.1)(ne:v≠b):nx w.2 b v<w.1:=(g.cq (g.nX hb hv ne).1).1
variable (tr:w.2.length+1=w.1)
include tr
theorem Good.vW {b u v:Nat}(hb:b<w.1)(h:u∈nb w.2 v)(lt:ds w.2 b u<ds w.2 b v):u=nx w.2 b v:=by
 have ne:v≠b:=λ e=>by rw[e,dM]at lt;omega
 obtain⟨h1,h2,_⟩:=g.nX hb (g.cq h).2.1 ne
 exact g.uW tr hb h h1 lt (by omega)
end
noncomputable def cut (l:List (Nat×Nat))(a b:Nat):List (Nat×Nat):=l.filter λ t=>t != eX a b
section
variable {w:Web}(g:Good w)
include g
theorem Good.EE {a b u v:Nat}:v∈nb (cut w.2 a b) u↔v∈nb w.2 u/\eX u v≠eX a b:=by
 have e:(v,u)∈cut w.2 a b\/(u,v)∈cut w.2 a b↔((v,u)∈w.2/\(v,u)≠eX a b)\/((u,v)∈w.2/\(u,v)≠eX a b):=by
  simp[cut,List.mem_filter]
 rw[j6,e,j6]
 have h1:(v,u)∈w.2->eX u v=(v,u):=λ h=>by have:=g.ok _ h;simp at this;simp[eX];omega
 have h2:(u,v)∈w.2->eX u v=(u,v):=λ h=>by have:=g.ok _ h;simp at this;simp[eX];omega
 constructor
 ·rintro (⟨h,n⟩ | ⟨h,n⟩)
  ·exact⟨.inl h,by rw[h1 h];exact n⟩
  ·exact⟨.inr h,by rw[h2 h];exact n⟩
 ·rintro⟨h | h,n⟩
  ·exact .inl ⟨h,by rw[<-h1 h];exact n⟩
  ·exact .inr ⟨h,by rw[<-h2 h];exact n⟩
variable (tr:w.2.length+1=w.1)
include tr
theorem Good.side {a b v:Nat}(hv:v<w.1)(hab:b∈nb w.2 a):ds w.2 a v=ds w.2 b v+1\/ds w.2 b v=ds w.2 a v+1:=by
 have ha:=(g.cq hab).2.1
 have hb:=(g.cq hab).1
 rw[g.vV ha hv,g.vV hb hv]
 rcases g.pH tr hv hab with h | h
 ·exact .inr h
 ·exact .inl h
theorem Good.Lp {a b u v:Nat}(hab:b∈nb w.2 a)(h:v∈nb w.2 u)(su:ds w.2 a u=ds w.2 b u+1)(sv:ds w.2 b v=ds w.2 a v+1):u=b/\v=a:=by
 have ha:=(g.cq hab).2.1
 have hb:=(g.cq hab).1
 have hu:=(g.cq h).2.1
 have hv:=(g.cq h).1
 have h1:=g.pH tr ha h
 have h2:=g.pH tr hb h
 have e:u=b:=aJ λ ne=>by
  obtain⟨p1,p2,_⟩:=g.nX hb hu ne
  have hp:=(g.cq p1).1
  have h3:=g.pH tr ha p1
  have h4:=g.side tr hp hab
  by_cases lt:ds w.2 a (nx w.2 b u)<ds w.2 a u
  ·have:v=nx w.2 b u:=g.uW tr ha h p1 (by omega) lt
   rw[<-this]at p2;omega
  ·omega
 subst e
 rw[dM]at su h2
 exact⟨rfl,g.lX ha hv (by omega)⟩
theorem Good.EF {a b v:Nat}(hab:b∈nb w.2 a):v∈keys (bfs (cut w.2 a b) b)↔v<w.1/\ds w.2 a v=ds w.2 b v+1:=by
 have ha:=(g.cq hab).2.1
 have hb:=(g.cq hab).1
 have f:=ee (cut w.2 a b) b
 have ab1:ds w.2 a b=1:=(g.ED ha hb).mpr hab
 have ba1:ds w.2 b a=1:=(g.ED hb ha).mpr (jy.mp hab)
 constructor
 ·intro h
  obtain⟨q,hq,rfl⟩:=aA.mp h
  refine f.sub (λ v=>v<w.1/\ds w.2 a v=ds w.2 b v+1) ⟨hb,by rw[dM,ab1]⟩ (λ u v hn hs=>?_) q.2 q.1 hq
  obtain⟨n1,n2⟩:=g.EE.mp hn
  refine⟨(g.cq n1).1,?_⟩
  rcases g.side tr (g.cq n1).1 hab with z | z
  ·exact z
  ·obtain⟨rfl,rfl⟩:=g.Lp tr hab n1 hs.2 z
   exact absurd (uV _ _) n2
 ·rintro⟨hv,e⟩
  have go:∀ d v,v<w.1->ds w.2 b v=d->ds w.2 a v=ds w.2 b v+1->v∈keys (bfs (cut w.2 a b) b):=by
   intro d
   induction d with
   | zero=>intro v hv h0 _;rw[g.lX hb hv h0];exact aA.mpr ⟨_,f.start,rfl⟩
   | succ d ih =>
    intro v hv hd hs
    obtain⟨u,hu,e'⟩:=g.gW hb hv (λ z=>by rw[z,dM]at hd;omega)
    have hul:=(g.cq hu).2.1
    have h1:=g.pH tr ha hu
    have h2:=g.side tr hul hab
    have su:ds w.2 a u=ds w.2 b u+1:=by omega
    obtain⟨q,hq,rfl⟩:=aA.mp (ih u hul (by omega) su)
    obtain⟨d',hd',_⟩:=f.cl q hq v (g.EE.mpr ⟨hu,λ t=>by
     rcases sU t with⟨z,_⟩ | ⟨_,z⟩
     ·rw[z,dM]at su;omega
     ·rw[z,dM]at hs;omega⟩)
    exact aA.mpr ⟨_,hd',rfl⟩
  exact go _ v hv rfl e
theorem Good.nY {a b:Nat}(hab:b∈nb w.2 a):(bfs (cut w.2 a b) b).length=(List.range w.1).countP λ v=>decide (ds w.2 a v=ds w.2 b v+1):=by
 have f:=ee (cut w.2 a b) b
 have e:(bfs (cut w.2 a b) b).length=(keys (bfs (cut w.2 a b) b)).length:=by simp[keys]
 rw[e,List.countP_eq_length_filter]
 have iff:∀ v,v∈keys (bfs (cut w.2 a b) b)↔v∈(List.range w.1).filter λ v=>decide (ds w.2 a v=ds w.2 b v+1):=λ v=>by
  rw[g.EF tr hab,List.mem_filter,ay];simp
 exact Nat.le_antisymm (aH f.nd λ v h=>(iff v).mp h) (aH (List.nodup_range.filter _) λ v h=>(iff v).mpr h)
end
theorem sW {α:Type}(p q:α->Bool):∀ (l:List α),(∀ x∈l,q x=!p x)->l.countP p+l.countP q=l.length
 | [],_=>rfl
 | x::r,h=>by
  have ih:=sW p q r λ y hy=>h y (ak _ hy)
  have hx:=h x ai
  rw[List.countP_cons,List.countP_cons,hx,List.length_cons]
  cases p x<;>simp<;>omega
section
variable {w:Web}(g:Good w)(tr:w.2.length+1=w.1)
include g tr
theorem Good.parts {a b:Nat}(hab:b∈nb w.2 a):(bfs (cut w.2 a b) b).length+(bfs (cut w.2 b a) a).length=w.1:=by
 rw[g.nY tr hab,g.nY tr (jy.mp hab)]
 have:=sW (λ v=>decide (ds w.2 a v=ds w.2 b v+1)) (λ v=>decide (ds w.2 b v=ds w.2 a v+1)) (List.range w.1) λ v hv=>by
  have:=g.side tr (ay.mp hv) hab
  by_cases h:ds w.2 a v=ds w.2 b v+1
  ·have h':¬ ds w.2 b v=ds w.2 a v+1:=by omega
   simp only[h,h',decide_true,decide_false,Bool.not_true]
   simp;omega
  ·have h':ds w.2 b v=ds w.2 a v+1:=by omega
   simp[h'];omega
 rw[List.length_range]at this
 exact this
end
noncomputable def sz (l:List (Nat×Nat))(a b:Nat):Nat:=(bfs (cut l a b) b).length
noncomputable def ov (l:List (Nat×Nat))(a b:Nat):Int:=2*(sz l b a:Int)-1
noncomputable def mF (l:List (Nat×Nat))(b:Nat):Nat->Nat->Int
 | 0,_=>0
 | k+1,v=>if v=b then 0 else mF l b k (nx l b v)+ov l v (nx l b v)
noncomputable def mn (l:List (Nat×Nat))(b v:Nat):Int:=mF l b (ds l b v) v
noncomputable def wF (l:List (Nat×Nat))(b:Nat):Nat->Nat->List Nat
 | 0,v=>[v]
 | k+1,v=>if v=b then [v] else v::wF l b k (nx l b v)
theorem Bp (l:List (Nat×Nat))(b:Nat):mn l b b=0:=by unfold mn;rw[dM];rfl
section
variable {w:Web}(g:Good w)
include g
theorem Good.vX {b v:Nat}(hb:b<w.1)(hv:v<w.1)(ne:v≠b):mn w.2 b v=mn w.2 b (nx w.2 b v)+ov w.2 v (nx w.2 b v):=by
 obtain⟨_,e,_⟩:=g.nX hb hv ne
 unfold mn
 rw[e,mF,af ne]
variable (tr:w.2.length+1=w.1)
include tr
theorem Good.GO {a b:Nat}(hab:b∈nb w.2 a):ov w.2 a b+ov w.2 b a=2*(w.2.length:Int):=by
 have:=g.parts tr hab
 unfold ov sz;omega
end
section
variable {w:Web}(g:Good w)(tr:w.2.length+1=w.1)
include g tr
end
noncomputable def eqA (w:Web)(gv:Nat->Option Int)(ad:Nat->Int)(i j:Nat):Int :=
 match gv i with
 | some v=>if j=w.1 then v else if j=i then 1 else 0
 | none=>if j=w.1 then ad i else if j=i then (dg w i:Int) else if j∈nb w.2 i then -1 else 0
theorem vY {n:Nat}(f:Nat->Rat):∀ (xs:List Nat),xs.Nodup->(∀ x∈xs,x<n)->Dt0.sm n (λ j=>if j∈xs then f j else 0)=(xs.map f).sum
 | [],_,_=>by
  have:Dt0.sm n (λ j=>if j∈([]:List Nat) then f j else 0)=Dt0.sm n (λ _=>0):=Dt0.cN λ j _=>af (by simp)
  rw[this,Dt0.lM];rfl
 | x::r,nd,h=>by
  obtain⟨h1,h2⟩:=List.nodup_cons.mp nd
  have ih:=vY f r h2 λ y hy=>h y (ak _ hy)
  have one:Dt0.sm n (λ j=>if j=x then f j else 0)=f x:=by
   have:=Dt0.kO (f:=λ j=>if j=x then f j else 0) (h x ai) λ j _ ne=>af ne
   rw[this,ae rfl]
  have e:Dt0.sm n (λ j=>if j∈x::r then f j else 0)=Dt0.sm n (λ j=>1*(if j=x then f j else 0)+1*(if j∈r then f j else 0)):=Dt0.cN λ j _=>by
   by_cases c:j=x
   ·subst c;rw[ae ai,ae rfl,af h1];grind
   ·by_cases c2:j∈r
    ·rw[ae (ak _ c2),af c,ae c2];grind
    ·rw[af (by simp[c,c2]),af c,af c2];grind
  rw[e,Dt0.kN,one,ih,List.map_cons,List.sum_cons];grind
section
variable {w:Web}(g:Good w){gv:Nat->Option Int}{ad:Nat->Int}
include g
theorem Good.sX {i:Nat}(hi:i<w.1)(h:gv i=none)(y:Nat->Rat):Dt0.sm w.1 (λ j=>(eqA w gv ad i j:Rat)*y j)=(dg w i:Rat)*y i-((nb w.2 i).map y).sum:=by
 have one:Dt0.sm w.1 (λ j=>if j=i then (dg w i:Rat)*y j else 0)=(dg w i:Rat)*y i:=by
  have:=Dt0.kO (f:=λ j=>if j=i then (dg w i:Rat)*y j else 0) hi λ j _ ne=>af ne
  rw[this,ae rfl]
 have e:Dt0.sm w.1 (λ j=>(eqA w gv ad i j:Rat)*y j)=Dt0.sm w.1 (λ j=>1*(if j=i then (dg w i:Rat)*y j else 0)+-1*(if j∈nb w.2 i then y j else 0)):=Dt0.cN λ j hj=>by
  unfold eqA
  rw[h]
  show((if j=w.1 then ad i else if j=i then (dg w i:Int) else if j∈nb w.2 i then -1 else 0:Int):Rat)*y j=_
  rw[af (by omega)]
  by_cases c:j=i
  ·subst c
   have:j∉nb w.2 j:=λ m=>(g.cq m).2.2 rfl
   rw[ae rfl,ae rfl,af this,Rat.intCast_natCast];grind
  ·rw[af c,af c]
   by_cases c2:j∈nb w.2 i
   ·rw[ae c2,ae c2]
    have:((-1:Int):Rat)=-1:=rfl
    rw[this];grind
   ·rw[af c2,af c2]
    have:((0:Int):Rat)=0:=rfl
    rw[this];grind
 rw[e,Dt0.kN,one,vY _ _ (g.uS i) λ x hx=>(g.cq hx).1];grind
omit g in
theorem sY {i:Nat}{v:Int}(hi:i<w.1)(h:gv i=some v)(y:Nat->Rat):Dt0.sm w.1 (λ j=>(eqA w gv ad i j:Rat)*y j)=y i:=by
 have:=Dt0.kO (f:=λ j=>(eqA w gv ad i j:Rat)*y j) hi λ j hj ne=>by
  unfold eqA;rw[h]
  show((if j=w.1 then v else if j=i then 1 else 0:Int):Rat)*y j=_
  rw[af (by omega),af ne]
  have:((0:Int):Rat)=0:=rfl
  rw[this];grind
 rw[this]
 unfold eqA;rw[h]
 show((if i=w.1 then v else if i=i then 1 else 0:Int):Rat)*y i=_
 rw[af (by omega),ae rfl]
 have:((1:Int):Rat)=1:=rfl
 rw[this];grind
omit g in
theorem EG (n:Nat)(S:Nat->Bool)(f:Nat->Rat):Dt0.sT n S f=Dt0.sm n (λ j=>f j*(if S j=true then 1 else 0)):=by
 unfold Dt0.sT
 exact Dt0.cN λ j _=>by split<;>grind
omit g in
theorem uX (S:Nat->Bool):∀ (xs:List Nat),(xs.length:Rat)-(xs.map λ j=>if S j=true then (1:Rat) else 0).sum=((xs.countP λ j=>!S j:Nat):Rat)
 | []=>by
  show((0:Nat):Rat)-0=((0:Nat):Rat)
  grind
 | x::r=>by
  have ih:=uX S r
  rw[List.map_cons,List.sum_cons,List.length_cons,List.countP_cons]
  have e1:((r.length+1:Nat):Rat)=(r.length:Rat)+1:=Rat.natCast_add _ 1
  cases c:S x with
  | true =>
   simp only[Bool.not_true,Bool.false_eq_true,if_false,if_true,Nat.add_zero]
   rw[e1,<-ih];grind
  | false =>
   simp only[Bool.not_false,Bool.false_eq_true,if_false,if_true]
   have e2:((List.countP (λ j=>!S j) r+1:Nat):Rat)=((List.countP (λ j=>!S j) r:Nat):Rat)+1:=Rat.natCast_add _ 1
   rw[e1,e2,<-ih];grind
theorem Good.Bq {i:Nat}(hi:i<w.1)(h:gv i=none)(S:Nat->Bool)(hs:S i=true):Dt0.sT w.1 S (Dt0.qA (eqA w gv ad) i)=(((nb w.2 i).countP λ j=>!S j:Nat):Rat):=by
 rw[EG]
 show Dt0.sm w.1 (λ j=>(eqA w gv ad i j:Rat)*(if S j=true then 1 else 0))=_
 rw[g.sX hi h,hs,ae rfl,<-uX]
 show(dg w i:Rat)*1-_=(dg w i:Rat)-_
 grind
omit g in
theorem Br {i:Nat}{v:Int}(hi:i<w.1)(h:gv i=some v)(S:Nat->Bool)(hs:S i=true):Dt0.sT w.1 S (Dt0.qA (eqA w gv ad) i)=1:=by
 rw[EG]
 show Dt0.sm w.1 (λ j=>(eqA w gv ad i j:Rat)*(if S j=true then 1 else 0))=_
 rw[sY hi h,hs,ae rfl]
omit g in
theorem JD (k:Nat):(0:Rat)<=(k:Rat):=Rat.natCast_nonneg
theorem Good.mm (hg:∃ p,p<w.1/\gv p≠none):Dt0.MM (Dt0.qA (eqA w gv ad)) w.1 0:=by
 refine⟨λ i j _ hi _ hj ne=>?_,λ S i hS hi=>?_,λ S hS hne=>?_⟩
 ·show((eqA w gv ad i j:Int):Rat)<=0
  have:eqA w gv ad i j<=0:=by
   unfold eqA
   split
   ·rw[af (by omega),af (Ne.symm ne)];omega
   ·rw[af (by omega),af (Ne.symm ne)];split<;>omega
  exact Rat.intCast_le_intCast.mpr this
 ·show 0<=Dt0.sT w.1 S (Dt0.qA (eqA w gv ad) i)
  cases h:gv i with
  | none=>rw[g.Bq (hS i hi).2 h S hi];exact JD _
  | some v=>rw[Br (hS i hi).2 h S hi];decide
 ·show ∃ i,S i=true/\0<Dt0.sT w.1 S (Dt0.qA (eqA w gv ad) i)
  refine aJ λ hn=>?_
  have no:∀ i,S i=true->¬ 0<Dt0.sT w.1 S (Dt0.qA (eqA w gv ad) i):=λ i hi hp=>hn ⟨i,hi,hp⟩
  have gn:∀ i,S i=true->gv i=none:=λ i hi=>by
   cases h:gv i with
   | none=>rfl
   | some v=>exact absurd (by rw[Br (hS i hi).2 h S hi];decide) (no i hi)
  have cl:∀ u v,v∈nb w.2 u->S u=true->S v=true:=λ u v hv hu=>by
   have:=no u hu
   rw[g.Bq (hS u hu).2 (gn u hu) S hu]at this
   have z:((nb w.2 u).countP λ j=>!S j)=0:=by
    rcases Nat.eq_zero_or_pos ((nb w.2 u).countP λ j=>!S j) with z | z
    ·exact z
    ·exact absurd (Rat.natCast_pos.mpr z) this
   have:=List.countP_eq_zero.mp z v hv
   simpa using this
  obtain⟨i0,h0⟩:=hne
  obtain⟨p,hp,hgp⟩:=hg
  exact hgp (gn p (g.conn (λ v=>S v=true) cl (hS i0 h0).2 hp h0))
noncomputable def sol (w:Web)(gv:Nat->Option Int)(ad:Nat->Int)(i:Nat):Rat:=Dt0.rd (Dt0.qA (eqA w gv ad)) w.1 i w.1
omit g in
theorem sZ (i:Nat):eqA w gv ad i w.1=(match gv i with | some v=>v | none=>ad i):=by
 unfold eqA;split<;>rw[ae rfl]
theorem Good.s9 (hg:∃ p,p<w.1/\gv p≠none){i:Nat}{v:Int}(hi:i<w.1)(h:gv i=some v):sol w gv ad i=(v:Rat):=by
 have:=Dt0.C0 (g.mm (ad:=ad) hg).ne hi
 rw[sY hi h,sZ,h]at this
 exact this
theorem Good.yy (hg:∃ p,p<w.1/\gv p≠none){i:Nat}(hi:i<w.1)(h:gv i=none):(dg w i:Rat)*sol w gv ad i=((nb w.2 i).map (sol w gv ad)).sum+(ad i:Rat):=by
 have:=Dt0.C0 (g.mm (ad:=ad) hg).ne hi
 rw[g.sX hi h,sZ,h]at this
 have:(dg w i:Rat)*sol w gv ad i-((nb w.2 i).map (sol w gv ad)).sum=(ad i:Rat):=this
 grind
theorem Good.nZ (hg:∃ p,p<w.1/\gv p≠none){y:Nat->Rat}(h1:∀ i v,i<w.1->gv i=some v->y i=(v:Rat))(h2:∀ i,i<w.1->gv i=none->(dg w i:Rat)*y i=((nb w.2 i).map y).sum+(ad i:Rat)){i:Nat}(hi:i<w.1):y i=sol w gv ad i:=by
 refine Dt0.only (g.mm (ad:=ad) hg).ne (λ i hi=>?_) hi
 rw[sZ]
 cases h:gv i with
 | none=>rw[g.sX hi h];have:=h2 i hi h;show _=(ad i:Rat);grind
 | some v=>rw[sY hi h];exact h1 i v hi h
end
theorem jA (f h:Nat->Rat):∀ (l:List Nat),(l.map λ x=>f x+h x).sum=(l.map f).sum+(l.map h).sum
 | []=>by show(0:Rat)=0+0;grind
 | x::r=>by rw[List.map_cons,List.map_cons,List.map_cons,List.sum_cons,List.sum_cons,List.sum_cons,jA f h r];grind
theorem jB (c:Rat)(f:Nat->Rat):∀ (l:List Nat),(l.map λ x=>c*f x).sum=c*(l.map f).sum
 | []=>by show(0:Rat)=c*0;grind
 | x::r=>by rw[List.map_cons,List.map_cons,List.sum_cons,List.sum_cons,jB c f r];grind
theorem el (c:Rat):∀ (l:List Nat),(l.map λ _=>c).sum=(l.length:Rat)*c
 | []=>by show(0:Rat)=((0:Nat):Rat)*c;grind
 | x::r=>by
  have:((r.length+1:Nat):Rat)=(r.length:Rat)+1:=Rat.natCast_add _ 1
  rw[List.map_cons,List.sum_cons,el c r,List.length_cons,this];grind
theorem dS {f h:Nat->Rat}{l:List Nat}(e:∀ x∈l,f x=h x):(l.map f).sum=(l.map h).sum:=by rw[aE e]
theorem qS (F:Nat->Nat->Rat)(m:List Nat):∀ (l:List Nat),(l.map λ x=>(m.map λ y=>F x y).sum).sum=(m.map λ y=>(l.map λ x=>F x y).sum).sum
 | []=>by
  show(0:Rat)=(m.map λ _=>0).sum
  rw[el];grind
 | x::r=>by
  rw[List.map_cons,List.sum_cons,qS F m r,<-jA]
  exact dS λ y _=>by rw[List.map_cons,List.sum_cons]
theorem pI {f:Nat->Rat}{a:Nat}:∀ {l:List Nat},l.Nodup->a∈l->(l.map λ x=>if x=a then f x else 0).sum=f a
 | x::r,nd,h=>by
  obtain⟨h1,h2⟩:=List.nodup_cons.mp nd
  rw[List.map_cons,List.sum_cons]
  by_cases c:x=a
  ·subst c
   have z:(r.map λ y=>if y=x then f y else 0).sum=(r.map λ _=>(0:Rat)).sum:=dS λ y hy=>af λ(e:y=x)=>h1 (e▸hy)
   rw[ae rfl,z,el];grind
  ·rcases ar.mp h with e | e
   ·exact absurd e.symm c
   ·rw[af c,pI h2 e];grind
theorem JE {f:Nat->Rat}{a:Nat}{l:List Nat}(h:a∉l):(l.map λ x=>if x=a then f x else 0).sum=0:=by
 have z:(l.map λ y=>if y=a then f y else 0).sum=(l.map λ _=>(0:Rat)).sum:=dS λ y hy=>af λ(e:y=a)=>h (e▸hy)
 rw[z,el];grind
section
variable {w:Web}(g:Good w)
include g
theorem Good.GP (F:Nat->Nat->Rat):((List.range w.1).map λ i=>((nb w.2 i).map λ u=>F i u).sum).sum=((List.range w.1).map λ u=>((nb w.2 u).map λ i=>F i u).sum).sum:=by
 have one:∀ (p:Nat) (f:Nat->Rat),((nb w.2 p).map f).sum=((List.range w.1).map λ u=>((nb w.2 p).map λ v=>if v=u then f v else 0).sum).sum:=λ p f=>by
  rw[qS]
  exact dS λ v hv=>by
   refine(pI (f:=λ u=>f v) (a:=v) (l:=List.range w.1) List.nodup_range (ay.mpr (g.cq hv).1)).symm.trans (dS λ u _=>?_)
   ·by_cases c:u=v
    ·rw[ae c,ae c.symm]
    ·rw[af c,af (Ne.symm c)]
 have val:∀ (p u:Nat) (f:Nat->Rat),((nb w.2 p).map λ v=>if v=u then f v else 0).sum=if u∈nb w.2 p then f u else 0:=λ p u f=>by
  by_cases c:u∈nb w.2 p
  ·rw[ae c,pI (g.uS p) c]
  ·rw[af c,JE c]
 rw[dS λ i _=>one i (λ u=>F i u),qS]
 refine dS λ u hu=>?_
 rw[one u λ i=>F i u]
 refine dS λ i hi=>?_
 rw[val i u,val u i (λ i=>F i u)]
 by_cases c:u∈nb w.2 i
 ·rw[ae c,ae (jy.mp c)]
 ·rw[af c,af λ z=>c (jy.mp z)]
theorem Good.EI:((List.range w.1).map λ i=>(dg w i:Rat)).sum=((2*w.2.length:Nat):Rat):=by
 rw[<-g.hand]
 have:∀ (l:List Nat),(l.map λ i=>(dg w i:Rat)).sum=(((l.map λ i=>dg w i).sum:Nat):Rat):=λ l=>by
  induction l with
  | nil=>rfl
  | cons x r ih=>rw[List.map_cons,List.map_cons,List.sum_cons,List.sum_cons,ih,Rat.natCast_add]
 exact this _
omit g in
noncomputable def gvM (b:Nat)(i:Nat):Option Int:=if i=b then some 0 else none
noncomputable def meQ (w:Web)(b i:Nat):Rat:=sol w (gvM b) (λ i=>(dg w i:Int)) i
omit g in
theorem lY {b:Nat}(hb:b<w.1):∃ p,p<w.1/\gvM b p≠none:=⟨b,hb,by unfold gvM;rw[ae rfl];simp⟩
theorem Good.Bs {b:Nat}(hb:b<w.1):meQ w b b=0:=g.s9 (lY hb) hb (v:=0) (by unfold gvM;rw[ae rfl])
theorem Good.EJ {b i:Nat}(hb:b<w.1)(hi:i<w.1)(ne:i≠b):(dg w i:Rat)*meQ w b i=((nb w.2 i).map (meQ w b)).sum+(dg w i:Rat):=g.yy (lY hb) hi (by unfold gvM;rw[af ne])
theorem Good.GQ {b:Nat}(hb:b<w.1){y:Nat->Rat}(h0:y b=0)(h:∀ i,i<w.1->i≠b->(dg w i:Rat)*y i=((nb w.2 i).map y).sum+(dg w i:Rat)){i:Nat}(hi:i<w.1):y i=meQ w b i:=by
 refine g.nZ (lY hb) (λ i v hi hv=>?_) (λ i hi hv=>?_) hi
 ·unfold gvM at hv
  by_cases c:i=b
  ·rw[ae c]at hv
   injection hv with hv
   rw[c,h0,<-hv];rfl
  ·rw[af c]at hv;cases hv
 ·unfold gvM at hv
  by_cases c:i=b
  ·rw[ae c]at hv;cases hv
  ·exact h i hi c
theorem Good.Bt {b:Nat}(hb:b<w.1):((nb w.2 b).map (meQ w b)).sum+(dg w b:Rat)=((2*w.2.length:Nat):Rat):=by
 have sw:=g.GP (λ _ u=>meQ w b u)
 have e1:((List.range w.1).map λ u=>((nb w.2 u).map λ _=>meQ w b u).sum).sum=((List.range w.1).map λ u=>(dg w u:Rat)*meQ w b u).sum:=dS λ u _=>el _ _
 have e2:((List.range w.1).map λ u=>(dg w u:Rat)*meQ w b u).sum=((List.range w.1).map λ u=>(((nb w.2 u).map (meQ w b)).sum+(dg w u:Rat))+-1*(if u=b then ((nb w.2 b).map (meQ w b)).sum+(dg w b:Rat) else 0)).sum:=dS λ u hu=>by
  by_cases c:u=b
  ·subst c;rw[ae rfl,g.Bs hb];grind
  ·rw[af c,g.EJ hb (ay.mp hu) c];grind
 rw[jA,jA,jB,pI (f:=λ _=>((nb w.2 b).map (meQ w b)).sum+(dg w b:Rat)) List.nodup_range (ay.mpr hb),g.EI]at e2
 have sw:((List.range w.1).map λ i=>((nb w.2 i).map (meQ w b)).sum).sum=((List.range w.1).map λ u=>((nb w.2 u).map λ _=>meQ w b u).sum).sum:=sw
 rw[e1,e2]at sw
 generalize ((List.range w.1).map λ i=>((nb w.2 i).map (meQ w b)).sum).sum=x at *
 generalize ((nb w.2 b).map (meQ w b)).sum=y at *
 grind
omit g in
noncomputable def j8 (w:Web)(i:Nat):Rat:=((List.range w.1).map λ j=>(dg w j:Rat)*meQ w j i).sum
theorem Good.EK {i:Nat}(hi:i<w.1):(dg w i:Rat)*j8 w i=((nb w.2 i).map (j8 w)).sum:=by
 unfold j8
 rw[qS,<-jB]
 have e:((List.range w.1).map λ j=>(dg w i:Rat)*((dg w j:Rat)*meQ w j i)).sum=((List.range w.1).map λ j=>(((nb w.2 i).map λ u=>(dg w j:Rat)*meQ w j u).sum+(dg w i:Rat)*(dg w j:Rat))+-1*(if j=i then (dg w i:Rat)*((2*w.2.length:Nat):Rat) else 0)).sum:=dS λ j hj=>by
  rw[jB]
  by_cases c:j=i
  ·subst c
   rw[ae rfl,g.Bs hi,<-g.Bt hi]
   generalize ((nb w.2 j).map (meQ w j)).sum=x
   show(dg w j:Rat)*((dg w j:Rat)*0)=((dg w j:Rat)*x+_)+_
   grind
  ·have:=g.EJ (ay.mp hj) hi (Ne.symm c)
   rw[af c]
   have e':((nb w.2 i).map λ u=>meQ w j u).sum=((nb w.2 i).map (meQ w j)).sum:=rfl
   rw[e']
   generalize ((nb w.2 i).map (meQ w j)).sum=x at *
   grind
 rw[e,jA,jA,jB,jB,pI (f:=λ _=>(dg w i:Rat)*((2*w.2.length:Nat):Rat)) List.nodup_range (ay.mpr hi),g.EI]
 grind
theorem Good.EL {i:Nat}(hi:i<w.1):j8 w i=j8 w 0:=by
 have z:0<w.1:=by have:=g.two;omega
 have h1:=g.nZ (gv:=gvM 0) (ad:=λ _=>0) (lY z) (y:=λ i=>j8 w i-j8 w 0) (λ i v hi hv=>by
  unfold gvM at hv
  by_cases c:i=0
  ·rw[ae c]at hv
   injection hv with hv
   rw[c,<-hv]
   show j8 w 0-j8 w 0=0
   grind
  ·rw[af c]at hv;cases hv) (λ i hi _=>by
  have e:(λ i=>j8 w i-j8 w 0)=λ i=>j8 w i+(-1*j8 w 0):=by funext i;grind
  have:((0:Int):Rat)=0:=rfl
  rw[e,jA,el,<-g.EK hi,this]
  show(dg w i:Rat)*(j8 w i-j8 w 0)=(dg w i:Rat)*j8 w i+(dg w i:Rat)*(-1*j8 w 0)+0
  grind) hi
 have h2:=g.nZ (gv:=gvM 0) (ad:=λ _=>0) (lY z) (y:=λ i=>0) (λ i v hi hv=>by
  unfold gvM at hv
  by_cases c:i=0
  ·rw[ae c]at hv
   injection hv with hv
   rw[<-hv];rfl
  ·rw[af c]at hv;cases hv) (λ i hi _=>by
  have:((0:Int):Rat)=0:=rfl
  rw[el,this];grind) hi
 have:=h1.trans h2.symm
 grind
omit g in
noncomputable def gvA (a b:Nat)(i:Nat):Option Int:=if i=a then some 1 else if i=b then some 0 else none
noncomputable def ahQ (w:Web)(a b i:Nat):Rat:=sol w (gvA a b) (λ _=>0) i
omit g in
theorem n4 {a b:Nat}(ha:a<w.1):∃ p,p<w.1/\gvA a b p≠none:=⟨a,ha,by unfold gvA;rw[ae rfl];simp⟩
theorem Good.GR {a b i:Nat}(ha:a<w.1)(hb:b<w.1)(ne:a≠b)(hi:i<w.1):ahQ w a b i+ahQ w b a i=1:=by
 have h:=g.nZ (gv:=gvA a b) (ad:=λ _=>0) (n4 ha) (y:=λ i=>-1*ahQ w b a i+1) (λ i v hi hv=>by
  unfold gvA at hv
  by_cases c:i=a
  ·rw[ae c]at hv
   injection hv with hv
   have:ahQ w b a i=((0:Int):Rat):=g.s9 (n4 hb) hi (by unfold gvA;rw[af (by omega),ae c])
   rw[<-hv,this]
   have z:((0:Int):Rat)=0:=rfl
   have o:((1:Int):Rat)=1:=rfl
   rw[z,o];grind
  ·rw[af c]at hv
   by_cases c2:i=b
   ·rw[ae c2]at hv
    injection hv with hv
    have:ahQ w b a i=((1:Int):Rat):=g.s9 (n4 hb) hi (by unfold gvA;rw[ae c2])
    rw[<-hv,this]
    have z:((0:Int):Rat)=0:=rfl
    have o:((1:Int):Rat)=1:=rfl
    rw[z,o];grind
   ·rw[af c2]at hv;cases hv) (λ i hi hv=>by
  have n:gvA b a i=none:=by
   unfold gvA at hv ⊢
   by_cases c:i=a
   ·rw[ae c]at hv;cases hv
   ·rw[af c]at hv
    by_cases c2:i=b
    ·rw[ae c2]at hv;cases hv
    ·rw[af c2,af c]
  have:=g.yy (ad:=λ _=>0) (n4 (b:=a) hb) hi n
  have z:((0:Int):Rat)=0:=rfl
  rw[jA,jB,el]
  rw[z]at this ⊢
  have this:(dg w i:Rat)*ahQ w b a i=((nb w.2 i).map (ahQ w b a)).sum+0:=this
  show(dg w i:Rat)*(-1*ahQ w b a i+1)=-1*((nb w.2 i).map (ahQ w b a)).sum+(dg w i:Rat)*1+0
  grind) hi
 show sol w (gvA a b) (λ _=>0) i+_=_
 rw[<-h];grind
end
theorem yz (P:Nat->Nat->Bool)(ys:List Nat):∀ (xs:List Nat),(xs.map λ u=>ys.countP (P u)).sum=(ys.map λ x=>xs.countP λ u=>P u x).sum
 | []=>by
  show 0=(ys.map λ x=>0).sum
  induction ys with
  | nil=>rfl
  | cons y r ih=>rw[List.map_cons,List.sum_cons,<-ih];rfl
 | x::r=>by
  rw[List.map_cons,List.sum_cons,yz P ys r]
  induction ys with
  | nil=>rfl
  | cons y q ih =>
   rw[List.countP_cons,List.map_cons,List.map_cons,List.sum_cons,List.sum_cons,List.countP_cons,<-ih]
   omega
theorem Bu {P:Nat->Bool}{a:Nat}:∀ {l:List Nat},l.Nodup->a∈l->(∀ u∈l,P u=true↔u=a)->l.countP P=1
 | x::r,nd,h,hp=>by
  obtain⟨h1,h2⟩:=List.nodup_cons.mp nd
  rw[List.countP_cons]
  by_cases c:x=a
  ·subst c
   have z:r.countP P=0:=List.countP_eq_zero.mpr λ y hy hpy=>h1 (((hp y (ak _ hy)).mp hpy)▸hy)
   rw[z,(hp x ai).mpr rfl];rfl
  ·have n:P x=false:=by
    cases q:P x with
    | false=>rfl
    | true=>exact absurd ((hp x ai).mp q) c
   rcases ar.mp h with e | e
   ·exact absurd e.symm c
   ·rw[Bu h2 e λ u hu=>hp u (ak _ hu),n];rfl
section
variable {w:Web}(g:Good w)(tr:w.2.length+1=w.1)
include g tr
theorem Good.Cy {v:Nat}(hv:v<w.1):((nb w.2 v).map λ u=>sz w.2 v u).sum=w.2.length:=by
 have e:(nb w.2 v).map (λ u=>sz w.2 v u)=(nb w.2 v).map λ u=>(List.range w.1).countP λ x=>decide (ds w.2 v x=ds w.2 u x+1):=aE λ u hu=>g.nY tr hu
 rw[e,yz (λ u x=>decide (ds w.2 v x=ds w.2 u x+1))]
 have e2:(List.range w.1).map (λ x=>(nb w.2 v).countP λ u=>decide (ds w.2 v x=ds w.2 u x+1))=(List.range w.1).map λ x=>if x=v then 0 else 1:=aE λ x hx=>by
  have hx:=ay.mp hx
  by_cases c:x=v
  ·subst c
   rw[ae rfl]
   refine List.countP_eq_zero.mpr λ u hu hp=>?_
   have hp:ds w.2 x x=ds w.2 u x+1:=by simpa using hp
   rw[dM]at hp;omega
  ·rw[af c]
   obtain⟨h1,h2,_⟩:=g.nX hx hv (Ne.symm c)
   refine Bu (g.uS v) h1 λ u hu=>?_
   have hul:=(g.cq hu).1
   rw[decide_eq_true_iff,g.vV hv hx,g.vV hul hx]
   constructor
   ·intro q;exact g.vW tr hx hu (by omega)
   ·intro q;rw[q];exact h2
 rw[e2]
 have h1:=CS w.1 (λ x=>if x=v then 0 else 1) (λ x=>if x=v then 1 else 0)
 have h2:=Hn hv (λ _=>1)
 have h3:S w.1 (λ x=>(if x=v then 0 else 1)+if x=v then 1 else 0)=w.1:=by
  rw[qK (g:=λ _=>1) λ i _=>by split<;>rfl]
  have:∀ n,S n (λ _=>1)=n:=λ n=>by
   induction n with
   | zero=>rfl
   | succ n ih=>rw[kM,ih]
  exact this _
 rw[h2,h3]at h1
 have:((List.range w.1).map λ x=>if x=v then 0 else 1).sum=S w.1 (λ x=>if x=v then 0 else 1):=rfl
 rw[this];omega
theorem Good.Lq {b v:Nat}(hb:b<w.1)(hv:v<w.1)(ne:v≠b):(dg w v:Rat)*(mn w.2 b v:Rat)=((nb w.2 v).map λ u=>(mn w.2 b u:Rat)).sum+(dg w v:Rat):=by
 obtain⟨n1,n2,_⟩:=g.nX hb hv ne
 have e:(nb w.2 v).map (λ u=>(mn w.2 b u:Rat))=(nb w.2 v).map λ u=>((2*(sz w.2 v u:Rat)+((mn w.2 b v:Rat)-1))+-1*(if u=nx w.2 b v then 2*(w.2.length:Rat) else 0)):=aE λ u hu=>by
  have ob:=g.GO tr hu
  have o2:ov w.2 u v=2*(sz w.2 v u:Int)-1:=rfl
  have cz:(((2*(sz w.2 v u:Int)-1:Int)):Rat)=2*(sz w.2 v u:Rat)-1:=by
   rw[Rat.intCast_sub,Rat.intCast_mul,Rat.intCast_natCast];rfl
  by_cases c:u=nx w.2 b v
  ·have st:=g.vX hb hv ne
   rw[<-c]at st
   have z:mn w.2 b u=mn w.2 b v+(2*(sz w.2 v u:Int)-1)-2*(w.2.length:Int):=by omega
   have cl:((2*(w.2.length:Int):Int):Rat)=2*(w.2.length:Rat):=by rw[Rat.intCast_mul,Rat.intCast_natCast];rfl
   rw[ae c,z,Rat.intCast_sub,Rat.intCast_add,cz,cl];grind
  ·have far:ds w.2 b u=ds w.2 b v+1:=by
    rcases g.pH tr hb hu with q | q
    ·exact q
    ·exact absurd (g.vW tr hb hu (by omega)) c
   have nb':u≠b:=λ q=>by rw[q,dM]at far;omega
   have st:=g.vX hb (g.cq hu).1 nb'
   rw[<-g.vW tr hb (jy.mp hu) (by omega),o2]at st
   rw[af c,st,Rat.intCast_add,cz];grind
 have sz':((nb w.2 v).map λ u=>(sz w.2 v u:Rat)).sum=(w.2.length:Rat):=by
  rw[<-g.Cy tr hv]
  have:∀ (l:List Nat),(l.map λ u=>(sz w.2 v u:Rat)).sum=(((l.map λ u=>sz w.2 v u).sum:Nat):Rat):=λ l=>by
   induction l with
   | nil=>rfl
   | cons x r ih=>rw[List.map_cons,List.map_cons,List.sum_cons,List.sum_cons,ih,Rat.natCast_add]
  exact this _
 rw[e,jA,jA,jB,jB,el,pI (f:=λ _=>2*(w.2.length:Rat)) (g.uS v) n1,sz']
 show(dg w v:Rat)*_=2*(w.2.length:Rat)+(dg w v:Rat)*_+_+_
 grind
theorem Good.Lr {b i:Nat}(hb:b<w.1)(hi:i<w.1):meQ w b i=(mn w.2 b i:Rat) :=
 (g.GQ hb (y:=λ v=>(mn w.2 b v:Rat)) (by rw[Bp];rfl) (λ v hv ne=>g.Lq tr hb hv ne) hi).symm
end
end L2
namespace L2
open PySem PySem.Spec PyProof.Rows Zp PySem.SeqAt
section
variable {X:Cx}{e a b c:Expr}{es:List Expr}{pos:Pos}{pins:List (Addr×Obj)}{σ:St}{H:Hp}{s:Shared}
noncomputable def eu (kvs:List (Int×Int))(k:Int):Option Int:=(kvs.find? λ q=>decide (q.1=k)).map (·.2)
noncomputable def qC:Dt->Dt->Option Dt
 | .dct kvs,.int k=>(eu kvs k).map .int
 | _,_=>none
theorem n_ (kvs:List (Int×Int))(k:Int):gH (kvD kvs) (Sum.inl k)=(eu kvs k).map V.int:=by
 unfold gH kvD eu
 rw[List.find?_map]
 simp[Function.comp_def]
theorem yA {ga gb:DE->Option Dt}(hu:X.A.units+1<cLine)(ha:PD X a ga)(hb:PD X b gb)(hs:IT b:=by exact λ _ _=>rfl):PD X (.Subscript a b pos) (bg qC ga gb) :=
 (AQ hu ha hb hs).of λ σ H Q ⟨δ,d,S,e,q⟩=>by
  obtain⟨x,y,e1,e2,e3⟩:=xE e
  refine⟨δ,x,S,e1,λ v H1 s1 i1=>⟨δ,y,S.ext s1,e2,λ w H2 s2 i2=>?_⟩⟩
  match x,y,e3 with
  | .dct kvs,.int k,e3 =>
   obtain⟨r,e4,rfl⟩:=br (show(eu kvs k).map _=_ from e3)
   obtain⟨p,rfl,hp⟩:=(i1.ext s2).i8
   have:=i2.int_inv
   subst this
   refine⟨p,.int r,rfl,?_,q _ H2 (s1.trans s2) (.int r)⟩
   have g:ml H2 p (kV (Sum.inl k)) (gH (kvD kvs) (Sum.inl k)):=.inl ⟨kvD kvs,Sum.inl k,hp,rfl,rfl⟩
   rw[n_,e4]at g
   exact g
noncomputable def qD (d:Dt)(es:List Dt):Bool:=es.any λ e=>dEq e d
noncomputable def dIn (neg:Bool):Dt->Dt->Option Dt
 | d,.tup es=>if (es.all λ e=>sh2 e d)=true then some (.bl (if neg then !qD d es else qD d es)) else none
 | d,.lst es=>if (es.all λ e=>sh2 e d)=true then some (.bl (if neg then !qD d es else qD d es)) else none
 | _,_=>none
open Classical in
noncomputable def isIt (its:List Value)(es:List Dt)(d:Dt)(w:Value):Bool:=decide (∃ (j:Nat) (e:Dt),its[j]?=some w/\es[j]?=some e/\dEq e d=true)
theorem oa {its:List Value}{es:List Dt}{d:Dt}{w:Value}:isIt its es d w=true↔∃ (j:Nat) (e:Dt),its[j]?=some w/\es[j]?=some e/\dEq e d=true:=by
 unfold isIt;exact @decide_eq_true_iff _ (Classical.propDecidable _)
theorem yB {xs:List V}{its:List Value}{es:List Dt}{d:Dt}(js:Iss X.K H xs es)(r:Vals xs its):its.any (isIt its es d)=qD d es:=by
 rw[Bool.eq_iff_iff,List.any_eq_true]
 unfold qD
 rw[List.any_eq_true]
 constructor
 ·rintro⟨w,_,h⟩
  obtain⟨j,e,h1,h2,h3⟩:=oa.mp h
  exact⟨e,List.mem_of_getElem? h2,h3⟩
 ·rintro⟨e,he,h⟩
  obtain⟨j,hj,ej⟩:=List.getElem_of_mem he
  have ej:es[j]?=some e:=by rw[aF hj,ej]
  obtain⟨v,hv,iv⟩:=js.get ej
  obtain⟨u,hu,_⟩:=r.get hv
  exact⟨u,List.mem_of_getElem? hu,oa.mpr ⟨j,e,hu,ej,h⟩⟩
theorem Bv {A:Around}(I:Inv X pins σ H s)(hu:A.units<cLine){xs:List V}{its:List Value}{es:List Dt}{d:Dt}{x:V}{v:Value}(js:Iss X.K H xs es)(r:Vals xs its)(i:Is X.K H x d)(rx:RelV x v)
  (sh:(es.all λ e=>sh2 e d)=true) (w:Value) (hw:w∈its):EqAt A s w v (isIt its es d w):=by
 have at_:∀ j e,its[j]?=some w->es[j]?=some e->EqAt A s w v (dEq e d):=λ j e h1 h2=>by
  obtain⟨y,u,hu',ru,iy⟩:=js.vals I r h2
  rw[h1]at hu'
  cases hu'
  exact Ec I hu (List.all_eq_true.mp sh e (List.mem_of_getElem? h2)) iy i ru rx
 cases hq:isIt its es d w with
 | true =>
  obtain⟨j,e,h1,h2,h3⟩:=oa.mp hq
  have:=at_ j e h1 h2
  rw[h3]at this
  exact this
 | false =>
  obtain⟨j,hj,ej⟩:=List.getElem_of_mem hw
  have hl:its.length=es.length:=by rw[<-r.length,js.length]
  have h1:its[j]?=some w:=by rw[aF hj,ej]
  have h2:es[j]?=some es[j]:=aF (by omega)
  have:=at_ j _ h1 h2
  have n:¬ dEq es[j] d=true:=λ z=>by rw[oa.mpr ⟨j,_,h1,h2,z⟩]at hq;cases hq
  rw[Bool.not_eq_true]at n
  rw[n]at this
  exact this
set_option tactic.hygienic true in
theorem Ng (hu:X.A.units+2<cLine):OpR X (compareOp .In) (rD X.K (dIn false)):=by
 intro pins s σ H x y v u Q I rx ry ⟨d,d',r,i,i',e,q⟩
 have hu1:X.A.in1.units<cLine:=by have:X.A.in1.units=X.A.units+1:=rfl;omega
 cases d'<;>try (cases e;done)
 ·rename_i es
  have e:(if (es.all λ e=>sh2 e d)=true then some (Dt.bl (qD d es)) else none)=some r:=e
  split at e
  ·rename_i sh
   cases e
   obtain⟨p,xs,rfl,hp,js⟩:=i'.bX
   cases ry
   obtain⟨its,rv,pl,hz⟩:=I.tuple hp
   refine in_tupleAt (isIt its es d) pl (λ w hw=>Bv I hu1 js rv i rx sh w (by simpa using hw)) ⟨.bl _,H,I,rfl,?_⟩
   rw[List.any_toArray,yB js rv]
   exact q _ H (a_.refl H) (.bl _)
  ·cases e
 ·rename_i es
  have e:(if (es.all λ e=>sh2 e d)=true then some (Dt.bl (qD d es)) else none)=some r:=e
  split at e
  ·rename_i sh
   cases e
   obtain⟨p,xs,rfl,hp,js⟩:=i'.lst_inv
   cases ry
   obtain⟨its,rv,pl,hz⟩:=I.list (SqL.of hp)
   refine in_listAt (isIt its es d) pl.isList (λ w hw=>Bv I hu1 js rv i rx sh w (by simpa using hw)) ⟨.bl _,H,I,rfl,?_⟩
   rw[List.any_toArray,yB js rv]
   exact q _ H (a_.refl H) (.bl _)
  ·cases e
noncomputable def pJ:Dt->Option Dt
 | .int i=>some (.int (-i))
 | _=>none
noncomputable def gUn (f:Dt->Option Dt)(g:DE->Option Dt):DE->Option Dt:=λ δ=>(g δ).bind f
theorem HQ {ga:DE->Option Dt}(ha:PD X a ga):PD X (.UnaryOp .USub a pos) (gUn pJ ga):=(Kz IC ha).of λ σ H Q ⟨δ,d,S,e,q⟩=>by
 obtain⟨x,e1,e2⟩:=aQ e
 match x,e2 with
 | .int i,e2 =>
  cases e2
  exact⟨δ,_,S,e1,λ v H1 s1 i1=>⟨i,i1.int_inv,q _ H1 s1 (.int _)⟩⟩
end
end L2
namespace L2
open PySem PySem.W PySem.Spec PyProof.Rows Zp PySem.SeqAt Tb
section
variable {X:Cx}{pins:List (Addr×Obj)}{σ:St}{H:Hp}{s:Shared}
noncomputable def s_ (srt:List Int->List Int):List Dt->Option Dt
 | [.dct kvs]=>if kvs.length<64 then some (.lst ((srt (kvs.map (·.1))).map .int)) else none
 | _=>none
theorem og:∀ {kvs:List (Int×Int)} {vs:List (Key×Value)} {us:List Value},KV (kvD kvs) vs->us.length=vs.length->(∀ (j:Nat) (v:Value),us[j]?=some v->∃ k x,vs[j]?=some (k,x)/\(cv X.prog X.w).is k v=true)->IntsAre us (kvs.map (·.1))
 | [],vs,us,kv,hl,_=>by
  have:vs=[]:=by cases kv;rfl
  subst this
  have:us=[]:=List.eq_nil_of_length_eq_zero hl
  subst this
  exact .nil
 | (a,b)::r,vs,us,kv,hl,hu=>by
  cases kv with
  | @cons _ y _ ys h t =>
   match us,hl,hu with
   | u::us,hl,hu =>
    obtain⟨k,x,e1,e2⟩:=hu 0 u rfl
    have e1:some y=some (k,x):=e1
    cases e1
    have e3:(Sum.inl a:Key)=k:=h.1
    subst e3
    have e2:pZ (Sum.inl a) u=true:=e2
    obtain⟨t',e4⟩:=Value.isInt_shape (show Value.isInt a u=true from e2)
    subst e4
    exact .cons a t' (og t (by simpa using hl) λ j v hj=>hu (j+1) v (by simpa using hj))
set_option tactic.hygienic true in
theorem Cz (srt:List Int->List Int)(hp:∀ l,(srt l).Perm l)(hs:∀ l,(srt l).Pairwise (·<=·))(hc:X.calm=true):cG X (.builtin "sorted") (cD X.K (s_ srt)):=by
 intro pins s σ H xs us Q I rs ⟨ds,d,is,e,q⟩
 match ds,e with
 | [.dct kvs],e =>
  have e:(if kvs.length<64 then some (Dt.lst ((srt (kvs.map (·.1))).map .int)) else none)=some d:=e
  split at e
  ·rename_i h64
   cases e
   obtain⟨v,rfl,i⟩:=is.one
   obtain⟨a,rfl,ha⟩:=i.i8
   obtain⟨u,rfl,ru⟩:=vals1 rs
   cases ru
   obtain⟨hz,lo,vs,kv,hD⟩:=rP I.hok ha
   obtain⟨ep,hat⟩:=hD.dictAt
   have hvl:vs.length=kvs.length:=by have:=kv.length;simpa [kvD] using this.symm
   obtain⟨m,hm,_⟩:=id I.loc
   refine Calls.call_function_entry kind_sorted plain_sorted entry_sorted (args_sorted1 _) ?_
   unfold Builtin.«sorted»
   refine av (m:=checkCount "sorted" 1 1 _) (aw (av (kdu_collect (A:=X.A.in1) (kdl_dict (knd:=cv X.prog X.w) (kvs:=vs) (ep:=ep) lo) (I.ok.hd hc) hat (by rw[sizeLine_eq];omega) λ h1 tk acc hk hacc=>?_)))
   have hal:acc.toList.length=vs.length:=by rw[Array.length_toList];exact hacc.1
   have hav:∀ (j:Nat) (v:Value),acc.toList[j]?=some v->∃ k x,vs[j]?=some (k,x)/\(cv X.prog X.w).is k v=true:=λ j v e=>hacc.2 j v (by rw[<-Array.getElem?_toList];exact e)
   generalize acc.toList=us at hal hav
   have hI:=og (X:=X) kv hal hav
   refine av (wpAny_newList ?_ (by rw[sizeLine_eq];omega))
   have hL:X.env.locals<h1.objs.size:=by
    obtain⟨oL,_,_,ho,_⟩:=hm
    exact au (hk _ _ ho)
   have hD1:(h1.push {cls:=.type "list",data:=.seq us.toArray}).get? h1.objs.size=some (seqObj "list" us.toArray 0):=aG _ rfl
   refine av (wpAny_holding ?_)
   refine wpAny_call_entry PyProof.Rows.slot_list_sort ⟨_,hD1,rfl⟩ PyProof.Rows.entry_list_sort (list_sort_tree (n:=0) (vs:=us) hD1 hI (by omega) λ out ns' hO hpe hpw=>⟨.none,rfl,?_⟩) (PyProof.Rows.args_list_sort _)
   refine aw ⟨_,rfl,?_⟩
   have hns:ns'=srt (kvs.map (·.1)):=by
    have p2:=hpe.trans (hp (kvs.map (·.1))).symm
    exact p2.eq_of_pairwise (λ a b _ _ h1 h2=>Int.le_antisymm h1 h2) hpw (hs _)
   subst hns
   have old:∀ b o,s.heap.get? b=some o->(sortedHeap (h1.push {cls:=.type "list",data:=.seq us.toArray}) h1.objs.size us out).get? b=some o:=λ b o e=>by
    have hb:=hk b o e
    have lt:=au hb
    rw[sortedHeap_old (Nat.ne_of_lt lt) (aB lt (by rw[size_push'];exact Nat.le_succ _))]
    exact aC _ hb
   obtain⟨c,hat'⟩:=sortedHeap_at (vs:=us) (out:=out) hD1
   have hn:H h1.objs.size=none:=by
    cases e:H h1.objs.size with
    | none=>rfl
    | some o =>
     obtain⟨o',ho'⟩:=xC (I.hok _ _ e)
     exact absurd (au (hk _ _ ho')) (Nat.lt_irrefl _)
   have new:cE X.prog X.w (upd H h1.objs.size (.lst ((srt (kvs.map (·.1))).map V.int))) (sortedHeap (h1.push {cls:=.type "list",data:=.seq us.toArray}) h1.objs.size us out) h1.objs.size (.lst ((srt (kvs.map (·.1))).map V.int)) :=
    ⟨by rw[ah,(hp _).length_eq,ah,sizeLine_eq];omega,out.toList,c,kH hO,hat'⟩
   have no:∀ b,(Att.fY s.heap).get? b=none:=λ b=>Heap.get?_none_of_le (Nat.zero_le _)
   have I2:Inv X pins σ H {s with heap:=sortedHeap (h1.push {cls:=.type "list",data:=.seq us.toArray}) h1.objs.size us out,toks:=tk} :=
    I.vz hm ⟨hm.at' λ o e=>old _ o e,(λ b o e=>by rw[no]at e;cases e),Nat.zero_le _⟩ λ p hp=>let ⟨x,_,z⟩:=iA hp;⟨old _ _ z,x,no _⟩
   have I3:=I2.xA hn (Nat.le_trans I.ok.above (Nat.le_of_lt hL)) (Nat.ne_of_gt hL) (λ x c e z=>by
    obtain⟨v,o,ho,_⟩:=I.cell x c e
    exact absurd (au (hk _ _ ho)) (by rw[z];exact Nat.lt_irrefl _)) (λ p hp z=>by
    exact absurd (au (hk _ _ (I.pin p hp).1)) (by rw[z];exact Nat.lt_irrefl _)) new
   exact⟨.ref h1.objs.size,_,I3,rfl,q _ _ (a_.upd hn) (.lst aU (Iss.vA _))⟩
  ·cases e
end
section
variable {X:Cx}{pins:List (Addr×Obj)}{σ:St}{H:Hp}{s:Shared}
end
end L2
namespace L2
open PySem PySem.Spec PyProof.Rows Zp Qs
noncomputable def dD (d:Dt):Option (List (Nat×Nat)):=(Jp d).bind λ kvs=>if bL (kvs.map λ q=>(q.1.toNat,q.2.toNat))=kvs then some (kvs.map λ q=>(q.1.toNat,q.2.toNat)) else none
theorem JF {d:Dt}{fd:List (Nat×Nat)}(h:dD d=some fd):d=.dct (bL fd):=by
 obtain⟨kvs,e,h⟩:=aQ h
 by_cases hc:bL (kvs.map λ q=>(q.1.toNat,q.2.toNat))=kvs
 ·rw[ae hc]at h
  cases h
  rw[hc];exact xT e
 ·rw[af hc]at h;cases h
@[simp] theorem JG (fd:List (Nat×Nat)):dD (.dct (bL fd))=some fd:=by
 have e:(bL fd).map (λ q=>(q.1.toNat,q.2.toNat))=fd:=by
  unfold bL
  rw[List.map_map]
  conv=>rhs;rw[<-List.map_id fd]
  exact aE λ q _=>by simp
 show(if bL ((bL fd).map λ q=>(q.1.toNat,q.2.toNat))=bL fd then some ((bL fd).map λ q=>(q.1.toNat,q.2.toNat)) else none)=_
 rw[e,ae rfl]
theorem CA (fd:List (Nat×Nat))(k:Nat):eu (bL fd) (k:Int)=if fB fd k=true then some ((look fd k:Nat):Int) else none:=by
 have h:=n_ (bL fd) k
 rw[nR]at h
 cases hk:fB fd k with
 | true =>
  rw[hk,ae rfl]at h
  rw[ae rfl]
  cases hl:eu (bL fd) (k:Int) with
  | none=>rw[hl]at h;cases h
  | some v=>rw[hl]at h;cases h;rfl
 | false =>
  rw[hk,af aq]at h
  rw[af aq]
  cases hl:eu (bL fd) (k:Int) with
  | none=>rfl
  | some v=>rw[hl]at h;cases h
theorem Bw {fd:List (Nat×Nat)}{k:Nat}(h:fB fd k=true):qC (.dct (bL fd)) (aM k)=some (aM (look fd k)):=by
 show(eu (bL fd) (k:Int)).map Dt.int=_
 rw[CA,ae h];rfl
noncomputable def fN:List Dt->Option Dt
 | [x,y,z]=>(dTs x).bind λ l=>(dD y).bind λ fd=>(cw z).bind λ p=>if l.length<=30/\fB fd p=true/\(∀ q∈nb l p,fB fd q=true) then (((nb l p).filter λ q=>decide (look fd q<look fd p)).map aM)[0]? else none
 | _=>none
noncomputable def iO:DE->Option RD:=(cu (bg dIx (gLC ["near"] [1,2] (gI d_ (aT 2 eO (aK (aN 0) (aK (aN 2) aP)))) (ggN 0) (gB (bg (dIB λ i j=>decide (i<j)) (bg qC (aN 1) (aN 0)) (bg qC (aN 1) (aN 2)))) (aN 0)) (gC (.int 0))))
noncomputable abbrev tf:List Str:=["ties","far","here"]
theorem qE:Hg 3 tf fN iO:=by
 intro ds d hl h
 match ds,h with
 | [x,y,z],h =>
  obtain⟨l,e1,h⟩:=aQ (show(dTs x).bind _=_ from h)
  obtain⟨fd,e2,h⟩:=aQ h
  obtain⟨p,e3,h⟩:=aQ h
  by_cases hc:l.length<=30/\fB fd p=true/\(∀ q∈nb l p,fB fd q=true)
  ·rw[ae hc]at h
   rw[JF e2,bJ e3]
   refine⟨.rt d,?_,rfl⟩
   have tk:=sO e1 hc.1 p
   have gp:=Bw hc.2.1
   have lc:=eh (enc:=aM) (gg:=ggN 0) (gt:=gB (bg (dIB λ i j=>decide (i<j)) (bg qC (aN 1) (aN 0)) (bg qC (aN 1) (aN 2)))) (ge:=aN 0) (δc:=[none,some (.dct (bL fd)),some (aM p)]) (δa:=λ q=>[some (aM q),some (.dct (bL fd)),some (aM p)]) (p:=λ q=>decide (look fd q<look fd p)) (enc':=aM) (nb l p) λ q hq=>⟨rfl,by
    have gq:=Bw (hc.2.2 q hq)
    simp only[aM]at gp gq
    simp[aM,gp,gq,dIB,asB],λ _=>rfl⟩
   have hlen:=Jw l p
   have at0:atI (((nb l p).filter λ q=>decide (look fd q<look fd p)).map aM) 0=some d:=iY h
   have hn:((nb l p).map aM).length<=1000:=by rw[ah];omega
   generalize ((nb l p).filter λ q=>decide (look fd q<look fd p)).map aM=ys at lc at0
   generalize (nb l p).map aM=xs at lc tk hn
   simp only[aM]at tk lc
   simp[iO,aM,tk,lc,hn,at0]
  ·rw[af hc]at h;cases h
theorem CB {l:List (Nat×Nat)}{s:Nat}:∀ (m:Nat) (fd:List (Nat×Nat)) (bu:List Nat),BI (univ l s) (fd,bu)->(fM l m fd bu).length<=2*l.length+1:=by
 intro m
 induction m with
 | zero=>intro fd bu h;have:=h.le;rw[jL]at this;exact this
 | succ m ih =>
  intro fd bu h
  cases bu with
  | nil=>have:=h.le;rw[jL]at this;exact this
  | cons e es =>
   have lb:=nU (bu:=e::es) (l:=l) (fd:=fd) (s:=s) ⟨h.nd,h.sub,by simp⟩
   exact ih _ _ ⟨lb.nd,lb.sub,lb.by'⟩
theorem Bx (l:List (Nat×Nat))(s:Nat):(bfs l s).length<=2*l.length+1:=CB _ _ _ ⟨by simp,λ q hq=>by rw[List.mem_singleton.mp hq];exact ai,λ j hj=>by simpa using hj⟩
noncomputable def sk (fd:List (Nat×Nat)):List Nat:=(srt ((keys fd).map λ(k:Nat)=>(k:Int))).map Int.toNat
theorem JH (fd:List (Nat×Nat)):srt ((bL fd).map (·.1))=(sk fd).map λ(k:Nat)=>(k:Int):=by
 have e:(bL fd).map (·.1)=(keys fd).map λ(k:Nat)=>(k:Int):=by unfold bL keys;rw[List.map_map,List.map_map];rfl
 rw[e]
 unfold sk
 rw[List.map_map]
 conv=>lhs;rw[<-List.map_id (srt _)]
 refine aE λ x hx=>?_
 obtain⟨k,_,rfl⟩:=aA.mp ((lx _).mem_iff.mp hx)
 simp
theorem GS (fd:List (Nat×Nat)):(sk fd).Perm (keys fd):=by
 have h:=(lx ((keys fd).map λ(k:Nat)=>(k:Int))).map Int.toNat
 rw[List.map_map]at h
 have e:(keys fd).map (Int.toNat∘λ(k:Nat)=>(k:Int))=keys fd:=by
  conv=>rhs;rw[<-List.map_id (keys fd)]
  exact aE λ x _=>by simp
 rw[e]at h
 exact h
theorem z7 {fd:List (Nat×Nat)}(h:fd.length<64):s_ srt [.dct (bL fd)]=some (.lst ((sk fd).map aM)):=by
 show(if (bL fd).length<64 then some (Dt.lst ((srt ((bL fd).map (·.1))).map .int)) else none)=_
 rw[ae (by unfold bL;rw[ah];exact h),JH,List.map_map];rfl
theorem yC (a b:Nat×Nat):dEq (bM a) (bM b)=(a==b):=by
 have:dEq (bM a) (bM b)=(((a.1:Int)==(b.1:Int))&&(((a.2:Int)==(b.2:Int))&&true)):=by simp[bM,aM,dEq,jI]
 rw[this,iM,iM,Bool.and_true]
 rfl
theorem Nh (a b:Nat×Nat):fX (bM a) (bM b)=some (.bl (a != b)):=by
 unfold fX
 rw[ae (show sh3 (bM a) (bM b)=true from rfl),yC];rfl
theorem yD (a b:Nat):xU [aM a,aM b]=some (aM (min a b)):=by
 show some (Dt.int (if (b:Int)<(a:Int) then (b:Int) else (a:Int)))=some (.int ((min a b:Nat):Int))
 congr 2
 split<;>omega
theorem yE (a b:Nat):xV [aM a,aM b]=some (aM (max a b)):=by
 show some (Dt.int (if (b:Int)>(a:Int) then (b:Int) else (a:Int)))=some (.int ((max a b:Nat):Int))
 congr 2
 split<;>omega
theorem yF {x:Dt}{l:List (Nat×Nat)}(e:dTs x=some l)(h:l.length<=30)(p:Nat):dG [x,aM p]=some (.dct (bL (bfs l p))):=by
 show(dTs x).bind (λ l=>(cw (aM p)).bind λ p=>if l.length<=30 then some (Dt.dct (bL (bfs l p))) else none)=_
 rw[e,bH,aa,aa,ae h]
noncomputable def gx:List Dt->Option Dt
 | [x,y,z]=>(dTs x).bind λ l=>(cw y).bind λ a=>(cw z).bind λ b=>if l.length<=30 then some (.tup ((sk (bfs (cut l a b) b)).map aM)) else none
 | _=>none
noncomputable def gy:DE->Option RD:=(bP (dR 3 (eU (aK (bK xU (aK (aN 1) (aK (aN 2) aP))) (aK (bK xV (aK (aN 1) (aK (aN 2) aP))) aP)))) (bP (dR 4 (gLC ["other"] [3] (gI d_ (aN 0)) (ggN 0) (gB (bg fX (aN 0) (aN 1))) (aN 0))) (cu (bK jv (aK (bK (s_ srt) (aK (aT 2 dG (aK (aN 4) (aK (aN 2) aP))) aP)) aP)))))
noncomputable abbrev mD:List Str:=["ties","a","b","tie","others"]
theorem tj:Hg 3 mD gx gy:=by
 intro ds d hl h
 match ds,h with
 | [x,y,z],h =>
  obtain⟨l,e1,h⟩:=aQ (show(dTs x).bind _=_ from h)
  obtain⟨a,e2,h⟩:=aQ h
  obtain⟨b,e3,h⟩:=aQ h
  by_cases hc:l.length<=30
  ·rw[ae hc]at h
   cases h
   rw[bJ e2,bJ e3]
   refine⟨.rt (.tup ((sk (bfs (cut l a b) b)).map aM)),?_,rfl⟩
   have hcut:(cut l a b).length<=30:=Nat.le_trans (List.length_filter_le _ _) hc
   have lc:=eh (enc:=bM) (gg:=ggN 0) (gt:=gB (bg fX (aN 0) (aN 1))) (ge:=aN 0) (δc:=[none,some (bM (eX a b))]) (δa:=λ t=>[some (bM t),some (bM (eX a b))]) (p:=λ t=>t != eX a b) (enc':=bM) l λ t _=>⟨rfl,by
    have:=Nh t (eX a b)
    simp[this],λ _=>rfl⟩
   have mn:=yD a b
   have mx:=yE a b
   have dk:=yF (GB (cut l a b)) hcut b
   have so:=z7 (fd:=bfs (cut l a b) b) (by have:=Bx (cut l a b) b;omega)
   have ht:Dt.tup [aM (min a b),aM (max a b)]=bM (eX a b):=rfl
   have hn:(l.map bM).length<=1000:=by rw[ah];omega
   have lc:sr (ggN 0) (gB (bg fX (aN 0) (aN 1))) (aN 0) [none,some (bM (eX a b))] (l.map bM)=some ((cut l a b).map bM):=lc
   generalize (cut l a b).map bM=xs at lc dk
   generalize (sk (bfs (cut l a b) b)).map aM=ys at so
   generalize Dt.dct (bL (bfs (cut l a b) b))=dd at dk so
   have tail:∀ ty:Dt,d_ ty=some (l.map bM)->gy (gX mD [ty,aM a,aM b])=some (.rt (.tup ys)):=λ ty hty=>by
    generalize l.map bM=es at lc hn hty
    generalize aM a=na at *
    generalize aM b=nb at *
    simp[gy,gX,mn,mx,ht,hty,lc,hn,dk,so]
   rcases Bi e1 with rfl | rfl
   ·exact tail _ rfl
   ·exact tail _ rfl
  ·rw[af hc]at h;cases h
noncomputable def dT (d:Dt):Option Web:=(dW d).bind λ w=>if w.2.length+1=w.1 then some w else none
theorem vZ {d:Dt}{w:Web}(h:dT d=some w):dW d=some w/\w.2.length+1=w.1:=by
 obtain⟨v,e,h⟩:=aQ h
 by_cases hc:v.2.length+1=v.1
 ·rw[ae hc]at h;cases h;exact⟨e,hc⟩
 ·rw[af hc]at h;cases h
theorem JI {w:Web}(g:Good w)(t:w.2.length+1=w.1):dT (bf w)=some w:=by
 show(dW (bf w)).bind _=_
 rw[iK g,aa,ae t]
noncomputable def lZ:List Dt->Option Dt:=mq λ x=>(dW x).map λ w=>.bl (decide (w.2.length+1=w.1))
noncomputable def eP:List Dt->Option Dt:=mq λ x=>(dT x).map λ _=>.non
noncomputable def pK:DE->Option RD:=(bP (eZ (aT 1 de (aK (aN 0) aP))) (bP (qx (fJ 1 2) (aN 0)) (cu (bg gY (bK iI (aK (aN 2) aP)) (bg (dI (·-·)) (aN 1) (gC (.int 1)))))))
noncomputable abbrev CC:List Str:=["web","many","ties"]
noncomputable def j9:DE->Option RD:=(jt (gK (gTr (aT 1 lZ (aK (aN 0) aP)))) pA fy)
noncomputable abbrev v8:List Str:=["thing"]
theorem z8:Hg 1 CC lZ pK:=by
 intro ds d hl h
 obtain⟨x,rfl,h⟩:=dE h
 obtain⟨w,e1,h⟩:=br h
 subst h
 obtain⟨rfl,hg⟩:=d4 e1
 have c1:=lW e1
 refine⟨.rt (.bl (decide (w.2.length+1=w.1))),?_,rfl⟩
 have eb:(((w.2.length:Nat):Int)==((w.1:Nat):Int)-1)=decide (w.2.length+1=w.1):=by
  rw[Bool.eq_iff_iff];simp;omega
 simp only[bf,aM]at c1
 simp[pK,bf,cT,aM,c1,eb]
theorem GU {x:Dt}{w:Web}(e:dT x=some w):lZ [x]=some (.bl true):=by
 obtain⟨e1,t⟩:=vZ e
 show(dW x).map _=_
 rw[e1,Option.map_some,decide_eq_true t]
theorem ud:Hg 1 v8 eP j9:=by
 intro ds d hl h
 obtain⟨x,rfl,h⟩:=dE h
 obtain⟨w,e1,h⟩:=br h
 subst h
 have:=GU e1
 refine⟨.nx [some x],?_,rfl⟩
 simp[j9,this]
theorem yG {x:Dt}{w:Web}(e:dT x=some w):eP [x]=some .non:=by
 show(dT x).map _=_
 rw[e];rfl
theorem Good.key {w:Web}(g:Good w){a b:Nat}(ha:a<w.1)(hb:b<w.1):fB (bfs w.2 a) b=true:=(ib _ _).mpr ((g.inKeys ha).mpr hb)
end L2
namespace L2
open PySem PySem.Spec PyProof.Rows Zp
noncomputable def qi (t:Bool)(l:Addr)(h:Heap):Heap:=(h.push (g_ t l)).push {cls:=.type "enumerate",data:=.fields #[.none,.bool false,.ref h.objs.size,rawInt 0,.none,.none]}
set_option tactic.hygienic true in
theorem GV (t:Bool)(l:Addr)(xs:Array Value) :
  Meets (Builtin.«enumerate.__new__» ⟨[.type "enumerate",.ref l],[]⟩) (λ _ R s=>IsB t s.heap l xs/\R (.ok (.ret (.ref (s.heap.objs.size+1)))) {s with heap:=qi t l s.heap}) :=
 .of_wp λ prog w A R s h=>by
  obtain⟨hp,g,d,tk,os⟩:=s
  obtain⟨hl,h⟩:=h
  have hsub:=sub_enumerate
  have hL:IsB t (Shared.heap ⟨hp,g,d,tk,os⟩) l xs:=hl
  have h:R (.ok (.ret (.ref ((hp.push (g_ t l)).objs.size)))) ⟨qi t l hp,g,d,tk,os⟩:=by rw[Heap.size_push];exact h
  cases t with
  | true =>
   obtain⟨ot,gt,_,nt,dt⟩:=id hl
   wp_walk using AutoSeq1.wpAny_loadPart' gt,mz hL
   refine wpAny_stack_any λ st=>aw ?_
   split
   ·rename_i c _ _ _ _ _
    cases (c==Value.type "enumerate")
    ·wp_walk using AutoSeq1.wpAny_loadPart' gt,mz hL
     exact⟨_,rfl,h⟩
    ·wp_walk using AutoSeq1.wpAny_loadPart' gt,mz hL
     exact⟨_,rfl,h⟩
   ·wp_walk using AutoSeq1.wpAny_loadPart' gt,mz hL
    exact⟨_,rfl,h⟩
  | false =>
   obtain⟨ot,gt,_,nt,dt⟩:=id hl
   wp_walk using AutoSeq1.wpAny_loadPart' gt,mz hL
   refine wpAny_stack_any λ st=>aw ?_
   split
   ·rename_i c _ _ _ _ _
    cases (c==Value.type "enumerate")
    ·wp_walk using AutoSeq1.wpAny_loadPart' gt,mz hL
     exact⟨_,rfl,h⟩
    ·wp_walk using AutoSeq1.wpAny_loadPart' gt,mz hL
     exact⟨_,rfl,h⟩
   ·wp_walk using AutoSeq1.wpAny_loadPart' gt,mz hL
    exact⟨_,rfl,h⟩
noncomputable def Ite (t:Bool)(K:PySem.W.Frag)(a:Addr):It :=
  ⟨λ i H=>∃ xs,SqB t K H a xs/\i<xs.length,
   λ i H v H'=>∃ p x,v=.ref p/\H p=none/\H'=upd H p (.tup [.int i,x])/\∀ xs,SqB t K H a xs->xs[i]?=some x,
   λ i H=>∃ xs,SqB t K H a xs/\i=xs.length⟩
noncomputable def tne (t:Bool)(a e it:Addr)(k:Nat)(h:Heap):Prop:=(∃ old,IsEnum h e it k old)/\ItB t h it a k
theorem CD {P:Program}{w:World}{K:PySem.W.Frag}{elts:List Expr}{kk:Nat}{ps:Pos}(t:Bool)(a e it:Addr)(ne:e≠it):Turn P w K (.Tuple elts kk ps) (Ite t K a) [e,it] e (tne t a e it) where
 mem:=by simp
 obj:=λ k h st c hc=>by
  obtain⟨⟨old,he⟩,h1⟩:=st
  simp only[ar,List.not_mem_nil,or_false]at hc
  rcases hc with rfl | rfl
  ·exact⟨_,he,λ v q=>by cases q⟩
  ·exact h1.obj
 keep:=λ k h h' st kp=>by
  obtain⟨⟨old,he⟩,h1⟩:=st
  exact⟨⟨old,kp e (by simp) _ he⟩,h1.keep λ o q=>kp it (by simp) o q⟩
 item:=by
  intro X hP hw hK hc k pins s σ H E I hf st hg
  subst hP hw hK
  obtain⟨xs,hq1,hk1⟩:=hg
  obtain⟨⟨old,he⟩,h1⟩:=st
  obtain⟨its1,rv1,p1,_⟩:=I.jX hq1
  obtain⟨oi,gi,ci,ci'⟩:=ItB.cls (t:=t) (h:=s.heap) (j:=it) (a:=a) (k:=k) h1
  have hl1:=rv1.length
  have na:=ph I hf hq1
  refine wpAny_pyNext_enum_itemD (pd (prog:=X.prog) (w:=X.w) (A:=X.A.in1) (t:=t) (show X.A.in1.handled=none from I.ok.hd hc) it a (na it (by simp)) its1.toArray) he ⟨h1,p1⟩ (by simp;omega) ne (by simp[ne,Ne.symm (na e (by simp))]) ?_
  intro x h' tk px ho s1 hT hsz kp
  generalize hN0:s.heap.objs.size=N at ho hT hsz ⊢
  have hN:s.heap.objs.size<=N:=Nat.le_of_eq hN0
  refine⟨.ref N,rfl,?_⟩
  have I1:Inv X pins σ H {s with heap:=h',toks:=tk+1}:=I.lQ (fp:=[e,it]) (λ c o hc' q=>kp c o (λ z=>hc' (by simp[z])) (λ z=>hc' (by simp[z])) q) hf
  have hxk:xs[k]?=some (xs[k]'hk1):=by simp[hk1]
  obtain⟨u1,e1,r1⟩:=rv1.get hxk
  have px':its1[k]?=some x:=by simpa using px
  rw[e1]at px';cases px'
  have hNn:H N=none:=I.hok.fresh hN
  have I2:Inv X pins σ (upd H N (.tup [.int k,xs[k]])) {s with heap:=h',toks:=tk+1}:=I1.xA hNn (Nat.le_trans I.sz hN) (Nat.ne_of_gt (aB I.lt hN)) (λ x c e q=>by
    obtain⟨v,o,ho,_⟩:=I.cell x c e
    exact absurd (au ho) (by rw[q];exact Nat.not_lt.mpr hN)) (λ p hp q=>absurd (au (I.pin p hp).1) (by rw[q];exact Nat.not_lt.mpr hN))
   ⟨by rw[sizeLine_eq];simp,[.int k tk,x],.cons ⟨_,rfl⟩ (.cons r1 .nil),⟨_,hT,rfl,0,rfl⟩⟩
  have nfp:∀ q∈[e,it],q≠N:=λ q hq z=>by
   have:q<s.heap.objs.size:=by
    simp only[ar,List.not_mem_nil,or_false]at hq
    rcases hq with rfl | rfl
    ·exact au he
    ·exact au gi
   rw[z]at this
   exact Nat.lt_irrefl _ (aB this hN)
  have hf2:∀ q∈[e,it],oO X pins (upd H N (.tup [.int k,xs[k]])) q:=λ q hq=>⟨by rw[aV (nfp q hq)];exact(hf q hq).1,(hf q hq).2⟩
  refine wpAny_letOwnedTupleGo_enum ho λ h2' he2 sb=>?_
  refine⟨.ref N,_,I2.lQ (t':=tk+1) (fp:=[e,it]) (λ c o hc' q=>sb.extBut _ _ (λ z=>hc' (by simp[z])) q) hf2,rfl,⟨N,_,rfl,hNn,rfl,λ zs hs=>?_⟩,⟨⟨_,by simpa using he2⟩,s1.1.keep λ o q=>sb.extBut _ _ (Ne.symm ne) q⟩,λ q hq=>(hf2 q hq).1⟩
  rw[I.sq hs hq1];exact hxk
 done:=by
  intro X hP hw hK hc k pins s σ H E I hf st hg
  subst hP hw hK
  obtain⟨xs,hq1,hk⟩:=hg
  obtain⟨⟨old,he⟩,h1⟩:=st
  obtain⟨its1,rv1,p1,_⟩:=I.jX hq1
  have hl1:=rv1.length
  have na:=ph I hf hq1
  have hk':k=its1.toArray.size:=by simp;omega
  subst hk'
  refine wpAny_pyNext_enum_endD (pd (prog:=X.prog) (w:=X.w) (A:=X.A.in1) (t:=t) (show X.A.in1.handled=none from I.ok.hd hc) it a (na it (by simp)) its1.toArray) he ⟨h1,p1⟩ ?_
  intro h' kp
  exact⟨rfl,I.lQ (t':=s.toks) (fp:=[e,it]) (λ c o hc' q=>kp c o (λ z=>hc' (by simp[z])) q) hf⟩
 self:=λ _ _ _ _ _ st h=>by
  obtain⟨⟨old,he⟩,_⟩:=st
  exact wpAny_pyIter_enum he h
section
variable {X:Cx}{a:Expr}{pos:Pos}
theorem GW {ta:TA}{elts:List Expr}{kk:Nat}{ps p:Pos}(t:Bool)(hg:Gl X "enumerate")(hm:X.mg "enumerate"=none)(ha:PA X [a] ta)(hs:starEach [a] X.env=[(false,eval a X.env)]:=by rfl)(hv:bootBuiltins "enumerate"=some (.type "enumerate"):=by rfl) :
  PI X (.Tuple elts kk ps) (.Call (.Name "enumerate" p) [a] [] pos) (λ σ H R=>ta σ H λ vs H1=>∃ x,vs=[.ref x]/\(∃ xs,SqB t X.K H1 x xs)/\R (Ite t X.K x) H1):=by
 intro pins s σ H R I h
 refine Call_ (mK I hg hm hv (PyProof.Rows.callWith_type1 (thn (ha pos pins s σ H _ I h) λ us s1 ⟨vs,H1,I1,r1,q1⟩=>?_) hs rfl))
 obtain⟨x,rfl,⟨xs,hx⟩,q⟩:=q1
 obtain⟨u,rfl,ru⟩:=vals1 r1
 cases ru
 obtain⟨its1,_,p1,_⟩:=I1.jX hx
 refine callType_new F.called_enumerate (by decide) (F.typeCall_enumerate_1 _) (F.newCall_enumerate_1 _) (λ obj=>F.args_object_init_2 obj _) F.entry_enumerate_new (GV t x its1.toArray) ⟨p1,?_⟩
 have old:∀ b o,s1.heap.get? b=some o->(qi t x s1.heap).get? b=some o:=λ b o e=>aC _ (aC _ e)
 have fr:(g_ t x).isFreed=false:=by cases t<;>rfl
 have g1:(qi t x s1.heap).get? s1.heap.objs.size=some (g_ t x):=aC _ (aG _ fr)
 have g2:IsEnum (qi t x s1.heap) (s1.heap.objs.size+1) s1.heap.objs.size ((0:Nat):Int) .none:=by
  have:(qi t x s1.heap).get? (s1.heap.push (g_ t x)).objs.size=some {cls:=.type "enumerate",data:=.fields #[.none,.bool false,.ref s1.heap.objs.size,rawInt 0,.none,.none]}:=aG _ rfl
  rw[Heap.size_push]at this
  exact this
 show _/\_
 refine⟨⟨_,g2,rfl⟩,wpAny_pyIter_enum (s:={s1 with heap:=qi t x s1.heap}) g2 ?_⟩
 have I2:Inv X pins σ H1 {s1 with heap:=qi t x s1.heap}:=I1.kept (t':=s1.toks) old
 refine⟨_,[s1.heap.objs.size+1,s1.heap.objs.size],_,_,H1,rfl,I2,CD t x (s1.heap.objs.size+1) s1.heap.objs.size (nn (by omega)),⟨⟨_,g2⟩,?_⟩,λ c hc=>?_,q⟩
 ·cases t with
  | true=>exact⟨_,g1,rfl,rfl⟩
  | false=>exact⟨_,g1,rfl,rfl⟩
 have hc:s1.heap.objs.size<=c:=by
  simp only[ar,List.not_mem_nil,or_false]at hc
  rcases hc with rfl | rfl
  ·exact Nat.le_add_right _ _
  ·exact ag _
 exact I1.BW hc (I1.hok.fresh hc)
noncomputable def EM (t:Bool):List Dt->Option (List Dt)
 | [x]=>(itB t x).map λ xs=>xs.zipIdx.map λ p=>.tup [.int p.2,p.1]
 | _=>none
noncomputable def qj (t:Bool)(gs:DE->Option (List Dt)):DE->Option (List Dt):=λ δ=>(gs δ).bind (EM t)
theorem By {gs:DE->Option (List Dt)}{elts:List Expr}{kk:Nat}{ps p:Pos}(t:Bool)(hm:X.mg "enumerate"=none)(ha:PDs X [a] gs)(hg:Gl X "enumerate":=by rfl)(hs:starEach [a] X.env=[(false,eval a X.env)]:=by rfl)
  (hv:bootBuiltins "enumerate"=some (.type "enumerate"):=by rfl):PI X (.Tuple elts kk ps) (.Call (.Name "enumerate" p) [a] [] pos) (iD X.K (qj t gs)) :=
 (GW t hg hm ha hs hv).of λ σ H R hz7=>by
  obtain⟨δ,ds,S,q,k⟩:=hz7
  obtain⟨x,e1,e2⟩:=aQ q
  match x,e2 with
  | [x],e2 =>
   obtain⟨xs,f1,e2⟩:=br (show(itB t x).map _=_ from e2)
   subst e2
   refine⟨δ,_,S,e1,λ vs H1 s1 i1=>?_⟩
   cases i1 with
   | cons i1 i3 =>
    cases i3
    obtain⟨c,vs1,rfl,q1,is1⟩:=vD f1 i1
    refine⟨c,rfl,⟨_,q1⟩,k _ H1 s1 λ H2 s2=>⟨λ i dd hd=>?_,⟨vs1,s2.jX q1,?_⟩⟩⟩
    ·rw[List.getElem?_map,List.getElem?_zipIdx]at hd
     cases hz:xs[i]? with
     | none=>rw[hz]at hd;cases hd
     | some pr =>
      rw[hz]at hd
      cases hd
      obtain⟨v1,g1,j1⟩:=is1.get hz
      refine⟨⟨vs1,s2.jX q1,(List.getElem?_eq_some_iff.mp g1).1⟩,?_⟩
      rintro v H3 ⟨p,a1,rfl,hp,rfl,r1⟩
      have w1:=r1 vs1 (s2.jX q1)
      rw[g1]at w1;cases w1
      refine⟨a_.upd hp,.tup (SqT.of aU) (.cons ?_ (.cons ((j1.ext s2).ext (a_.upd hp)) .nil))⟩
      have:((0+i:Nat):Int)=(i:Int):=by omega
      rw[this]
      exact .int _
    ·have l1:=is1.length
     simp only[ah,List.length_zipIdx]
     omega
end
end L2
namespace L2
open PySem PySem.Spec PyProof.Rows
section
variable {prog:Program}{w:World}{A:Around}{R:Result->Shared->Prop}{s:Shared}{elt t1 i1 t2 i2:Expr}{f1 f2:List Expr}{scope:Scope}{pos:Pos}{it acc:Value}{env:Env}
theorem nox {α:Type}{t:Sem α}{Q Q':α->Shared->Prop}{E:Value->Shared->Prop}{s:Shared}(h:wpAny (model prog w) A t Q (λ _ _=>False) s)(hq:∀ a s,Q a s->Q' a s):wpAny (model prog w) A t Q' E s:=wpAny_mono h hq λ _ _ z=>z.elim
end
section
variable {X:Cx}{pins:List (Addr×Obj)}{σ:St}{H:Hp}{s:Shared}{tg iter elt t1 i1:Expr}{ifs f1:List Expr}{scope:Scope}{pos:Pos}{g:TG}{tc:TT}{te:TE}
end
section
variable {X:Cx}{pins:List (Addr×Obj)}{σ:St}{H:Hp}{s:Shared}{own fr:List Str}{ix:List Nat}{scope:Scope}{tg iter elt tg2 iter2:Expr}{ifs ifs2:List Expr}{pos:Pos}{g g2:TG}{tc tc2:TT}{te:TE}{wi2:TI}
end
end L2
namespace L2
open PySem PySem.Spec PyProof.Rows Zp
noncomputable def tm (gg:Dt->DE->Option DE)(gt:DE->Option Bool)(gi2:DE->Option (List Dt))(gg2:Dt->DE->Option DE)(gt2:DE->Option Bool)(ge:DE->Option Dt)(δc:DE):List Dt->Option (List Dt)
 | []=>some []
 | d::r=>(gg d δc).bind λ δ'=>(gt δ').bind λ b=>if b=true then (gi2 δ').bind λ es=>(sr gg2 gt2 ge δ' es).bind λ zs=>(tm gg gt gi2 gg2 gt2 ge δc r).map (zs++·) else tm gg gt gi2 gg2 gt2 ge δc r
noncomputable def Ls (own:List Str)(ix:List Nat)(gi:DE->Option (List Dt))(gg:Dt->DE->Option DE)(gt:DE->Option Bool)(gi2:DE->Option (List Dt))(gg2:Dt->DE->Option DE)(gt2:DE->Option Bool)(ge:DE->Option Dt):DE->Option Dt :=
 λ δ=>(gi δ).bind λ ds=>(tm gg gt gi2 gg2 gt2 ge (mB own ix δ) ds).bind λ l=>if l.length<=1000 then some (.lst l) else none
section
variable {X:Cx}{pos:Pos}{tg iter elt tg2 iter2:Expr}{ifs ifs2:List Expr}{own fr:List Str}{ix:List Nat}{scope:Scope}{g g2:TG}{gg gg2:Dt->DE->Option DE}{gi gi2:DE->Option (List Dt)}{gt gt2:DE->Option Bool}{ge:DE->Option Dt}
end
end L2
namespace L2
open PySem PySem.W PySem.Spec PyProof.Rows Zp PySem.SeqAt
noncomputable def Lu (i j k:Nat):Dt->DE->Option DE:=λ d δ=>match d with
 | .tup [x,y,z]=>some (((δ.set i (some x)).set j (some y)).set k (some z))
 | _=>none
section
variable {X:Cx}{pins:List (Addr×Obj)}{σ:St}{H:Hp}{s:Shared}
noncomputable def lsT (b:List Int):List (List Int)->List Int
 | []=>b
 | x::r=>lsT (if HT.lexLt x b=true then x else b) r
section
variable {prog:Program}{w:World}{A:Around}{R:Result->Shared->Prop}
noncomputable def CF (h:Heap)(v:Value)(ns:List Int):Prop:=∃ a its,v=.ref a/\h.IsTuple a its/\IntsAre its.toList ns
theorem CF.lt {v u:Value}{ns ms:List Int}{s:Shared}{Q:Value->Shared->Prop}{E:Value->Shared->Prop}(h1:CF s.heap v ns)(h2:CF s.heap u ms)(hu:A.units<cLine)(q:Q (.bool (HT.lexLt ns ms)) s):wpAny (model prog w) A (richCompare .Lt v u) Q E s:=by
 obtain⟨a,its,rfl,ha,i1⟩:=h1
 obtain⟨b,its2,rfl,hb,i2⟩:=h2
 exact HT.rK ha hb i1 i2 hu q
theorem CF.keep {v:Value}{ns:List Int}{h h':Heap}(x:CF h v ns)(k:∀ a o,v=.ref a->h.get? a=some o->h'.get? a=some o):CF h' v ns:=by
 obtain⟨a,its,rfl,⟨o,ho,r⟩,i⟩:=x
 exact⟨a,its,rfl,⟨o,k a o rfl ho,r⟩,i⟩
end
end
section
variable {prog:Program}{w:World}{A:Around}{E:Value->Shared->Prop}{s:Shared}
end
noncomputable def tq:List Dt->Option (List (List Int))
 | []=>some []
 | d::r=>((xS d).bind d9).bind λ x=>(tq r).map (x::·)
theorem z9 (l:List (List Int)):tq (l.map λ x=>.tup (x.map .int))=some l:=by
 induction l with
 | nil=>rfl
 | cons x r ih =>
  show((xS (.tup (x.map .int))).bind d9).bind (λ y=>(tq (r.map λ x=>.tup (x.map .int))).map (y::·))=_
  rw[ih]
  have:d9 (x.map .int)=some x:=by
   induction x with
   | nil=>rfl
   | cons y t it =>
    show(d9 (t.map .int)).map (y::·)=_
    rw[it];rfl
  show((d9 (x.map .int)).bind λ y=>_)=_
  rw[this];rfl
noncomputable def JJ:List (List Int)->Option (List Int)
 | []=>none
 | x::r=>some (lsT x r)
noncomputable def EN:List Dt->Option Dt:=mq λ x=>(Eo x).bind λ ds=>(tq ds).bind λ l=>(JJ l).map λ x=>.tup (x.map .int)
section
variable {X:Cx}{pins:List (Addr×Obj)}{σ:St}{H:Hp}{s:Shared}
end
theorem Bz:∀ (r:List (List Int)) (b:List Int),lsT b r=b\/lsT b r∈r
 | [],b=>.inl rfl
 | x::r,b=>by
  show lsT (if HT.lexLt x b=true then x else b) r=b\/_
  rcases Bz r (if HT.lexLt x b=true then x else b) with h | h
  ·by_cases c:HT.lexLt x b=true
   ·rw[ae c]at h;exact .inr (by show lsT (if HT.lexLt x b=true then x else b) r∈_;rw[ae c,h];exact ai)
   ·rw[af c]at h;exact .inl (by rw[af c];exact h)
  ·exact .inr (ak _ h)
noncomputable def hd0 (l:List Int):Int:=l.headD 0
theorem EO {x b:List Int}(hx:x≠[])(hb:b≠[]):(HT.lexLt x b=true->hd0 x<=hd0 b)/\(HT.lexLt x b=false->hd0 b<=hd0 x):=by
 cases x with
 | nil=>exact absurd rfl hx
 | cons a x=>cases b with
  | nil=>exact absurd rfl hb
  | cons c b =>
   rw[HT.rG]
   show((if a=c then HT.lexLt x b else decide (a<c))=true->a<=c)/\((if a=c then HT.lexLt x b else decide (a<c))=false->c<=a)
   by_cases e:a=c
   ·subst e;exact⟨λ _=>Int.le_refl _,λ _=>Int.le_refl _⟩
   ·rw[af e];simp;omega
theorem z_:∀ (r:List (List Int)) (b:List Int),b≠[]->(∀ x∈r,x≠[])->hd0 (lsT b r)<=hd0 b/\∀ x∈r,hd0 (lsT b r)<=hd0 x
 | [],b,_,_=>⟨Int.le_refl _,λ x h=>by cases h⟩
 | y::r,b,hb,hr=>by
  have hy:=hr y ai
  obtain⟨h1,h2⟩:=EO hy hb
  show hd0 (lsT (if HT.lexLt y b=true then y else b) r)<=hd0 b/\∀ x∈y::r,hd0 (lsT (if HT.lexLt y b=true then y else b) r)<=hd0 x
  cases c:HT.lexLt y b with
  | true =>
   rw[ae rfl]
   obtain⟨i1,i2⟩:=z_ r y hy λ x hx=>hr x (ak _ hx)
   refine⟨Int.le_trans i1 (h1 c),λ x hx=>?_⟩
   rcases ar.mp hx with rfl | hx
   ·exact i1
   ·exact i2 x hx
  | false =>
   rw[af aq]
   obtain⟨i1,i2⟩:=z_ r b hb λ x hx=>hr x (ak _ hx)
   refine⟨i1,λ x hx=>?_⟩
   rcases ar.mp hx with rfl | hx
   ·exact Int.le_trans i1 (h2 c)
   ·exact i2 x hx
end L2
namespace L2
open PySem PySem.Spec PyProof.Rows Zp
section
variable {X:Cx}{a b e:Expr}{es:List Expr}{pos:Pos}
noncomputable def Ni:Dt->Option Str
 | .str z=>some z
 | _=>none
end
section
variable {X:Cx}{a b e o:Expr}{es:List Expr}{pos:Pos}
end
section
variable {X:Cx}{tg a b c:Expr}{pos:Pos}
end
section
variable {X:Cx}{a b e o:Expr}{es:List Expr}{pos:Pos}
noncomputable def ER:List Dt->Option (List Str)
 | []=>some []
 | d::ds=>(Ni d).bind λ z=>(ER ds).map (z::·)
@[simp] theorem Ko (l:List Str):ER (l.map .str)=some l:=by
 induction l with
 | nil=>rfl
 | cons i r ih=>show(some i).bind (λ i=>(ER (r.map .str)).map (i::·))=_;rw[ih];rfl
theorem Iss.strs {K:PySem.W.Frag}{H:Hp}{vs:List V}:∀ {ns:List Str},Iss K H vs (ns.map .str)->vs=ns.map V.str:=by
 intro ns h
 induction ns generalizing vs with
 | nil=>cases h;rfl
 | cons d r ih=>cases h with | cons h1 h2=>rw[h1.str_inv,ih h2];rfl
theorem Iss.ne {K:PySem.W.Frag}{H:Hp}{vs:List V}{ds:List Dt}(h:Iss K H vs ds)(n:ds≠[]):vs≠[]:=by
 intro e
 subst e
 cases h
 exact n rfl
noncomputable def qT:List Dt->Option Dt:=mq λ x=>(zU x).map .lst
theorem ES:cG X (.type "list") (cD X.K qT):=sy vj λ xs H Q ds d is e q=>by
 obtain⟨x,rfl,e1⟩:=dE e
 obtain⟨l,e0,rfl⟩:=br e1
 obtain⟨v,rfl,i⟩:=is.one
 rcases nK e0 with rfl | rfl
 ·obtain⟨a,ys,rfl,ha,js⟩:=i.bX
  exact⟨a,ys,rfl,.inr ha,λ p hp=>q _ _ (a_.upd hp) (.lst aU (js.ext (a_.upd hp)))⟩
 ·obtain⟨a,ys,rfl,ha,js⟩:=i.lst_inv
  exact⟨a,ys,rfl,.inl (SqL.of ha),λ p hp=>q _ _ (a_.upd hp) (.lst aU (js.ext (a_.upd hp)))⟩
end
section
variable {X:Cx}{pos:Pos}
noncomputable def JK (i j k:Nat)(g:DE->Option (List Dt)):DE->Option RD:=λ δ=>(g δ).bind λ ds=>match ds with
 | [x,y,z]=>some (.nx (((δ.set i (some x)).set j (some y)).set k (some z)))
 | _=>none
end
@[simp] theorem Mi (i j k:Nat) (gs:DE->Option (List Dt)) (δ:DE):JK i j k gs δ=(gs δ).bind λ ds=>match ds with | [x,y,z]=>some (.nx (((δ.set i (some x)).set j (some y)).set k (some z))) | _=>none:=rfl
end L2
namespace L2
open PySem PySem.Spec PyProof.Rows Zp Qs
section
variable {K:PySem.W.Frag}{w:Web}(g:Good w)
include g
end
noncomputable def y1:DE->Option RD:=eZ (aT 1 eP (aK (aN 0) aP))
noncomputable def y2:DE->Option RD:=eZ (aT 2 bR (aK (aN 0) (aK (aN 1) aP)))
noncomputable def y3:DE->Option RD:=eZ (aT 2 bR (aK (aN 0) (aK (aN 2) aP)))
noncomputable def y4:DE->Option RD:=dR 3 (aT 2 dG (aK (bg dIx (aN 0) (gC (.int 1))) (aK (aN 2) aP)))
section
variable {K:PySem.W.Frag}{w:Web}(g:Good w)
include g
end
theorem Lv {a:Int}(h:a.natAbs<1000000):bd a:=aB h (Nat.le_trans (show 1000000<=2 ^ 20 by decide) (Nat.pow_le_pow_right (by decide) (by decide)))
theorem Lw {a b:Int}(ha:a.natAbs<1000000)(hb:b.natAbs<1000000):ju (.int a) (.int b)=some (.int (a*b)):=by
 show(if bd a/\bd b then some (Dt.int (a*b)) else none)=_
 rw[ae ⟨Lv ha,Lv hb⟩]
noncomputable def fO:List Dt->Option Dt:=mq λ x=>(cw x).bind λ k=>if k<=1000 then some (.int (2*(k:Int)-1)) else none
noncomputable def cC:List Dt->Option Dt:=nJ λ x y=>(dT x).bind λ w=>(cw y).bind λ b=>if b<w.1 then some (.tup (((List.range w.1).map λ a=>mn w.2 b a).map .int)) else none
noncomputable def j_:List Dt->Option Dt:=cC
noncomputable def kc:DE->Option RD:=(cu (bg (dI (·-·)) (bg ju (gC (.int 2)) (aN 0)) (gC (.int 1))))
noncomputable abbrev v9:List Str:=["places"]
noncomputable def mT:DE->Option RD:=(bP (eZ (aT 1 eP (aK (aN 0) aP))) (bP (eZ (aT 2 bR (aK (aN 0) (aK (aN 1) aP)))) (cu (aT 2 cC (aK (aN 0) (aK (aN 1) aP))))))
noncomputable abbrev Aa:List Str:=["tree","place"]
theorem ue:Hg 1 v9 fO kc:=by
 intro ds d hl h
 obtain⟨x,rfl,h⟩:=dE h
 obtain⟨k,e,h⟩:=aQ h
 by_cases hk:k<=1000
 ·rw[ae hk]at h
  cases h
  rw[bJ e]
  refine⟨.rt (.int (2*(k:Int)-1)),?_,rfl⟩
  have m:=Lw (a:=2) (b:=(k:Int)) (by decide) (by omega)
  simp[kc,aM,m]
 ·rw[af hk]at h;cases h
theorem Lx {k:Nat}(h:k<=1000):fO [aM k]=some (.int (2*(k:Int)-1)):=by
 show(cw (aM k)).bind (λ k=>if k<=1000 then some (Dt.int (2*(k:Int)-1)) else none)=_
 rw[bH,aa,ae h]
theorem JL (fd:List (Nat×Nat)):(sk fd).length=fd.length:=by rw[(GS fd).length_eq];simp[keys]
theorem Good.Ly {w:Web}(g:Good w)(tr:w.2.length+1=w.1){a b:Nat}(hab:b∈nb w.2 a):sz w.2 a b<=w.1:=by
 unfold sz
 rw[g.nY tr hab]
 exact Nat.le_trans List.countP_le_length (by simp)
theorem ET {w:Web}(hg:Good w)(tr:w.2.length+1=w.1){b:Nat}(hb:b<w.1):cC [bf w,aM b]=some (.tup (((List.range w.1).map λ a=>mn w.2 b a).map .int)):=by
 show(dT (bf w)).bind (λ w=>(cw (aM b)).bind λ b=>if b<w.1 then some (Dt.tup (((List.range w.1).map λ a=>mn w.2 b a).map .int)) else none)=_
 rw[JI hg tr,bH,aa,aa,ae hb]
theorem yH:Hg 2 Aa j_ mT:=by
 intro ds d hl h
 obtain⟨x,y,rfl,h⟩:=fL (show nJ _ ds=_ from h)
 obtain⟨w,e1,h⟩:=aQ h
 obtain⟨b,e3,h⟩:=aQ h
 by_cases hc:b<w.1
 ·rw[ae hc]at h
  cases h
  obtain⟨e4,ht⟩:=vZ e1
  obtain⟨rfl,hg⟩:=d4 e4
  rw[bJ e3]
  refine⟨.rt (.tup (((List.range w.1).map λ a=>mn w.2 b a).map .int)),?_,rfl⟩
  have c1:=yG e1
  have c2:=h_ e4 hc
  have cm:=ET hg ht hc
  generalize ((List.range w.1).map λ a=>mn w.2 b a).map Dt.int=ps at *
  generalize bf w=ww at *
  generalize aM b=nb at *
  simp[mT,c1,c2,cm]
 ·rw[af hc]at h;cases h
theorem yI {α:Type}{enc:α->Dt}{gg gg2:Dt->DE->Option DE}{gi2:DE->Option (List Dt)}{gt2:DE->Option Bool}{ge:DE->Option Dt}{δc:DE}{δa:α->DE}{es zs:α->List Dt}:∀ (l:List α),(∀ a∈l,gg (enc a) δc=some (δa a)/\gi2 (δa a)=some (es a)/\sr gg2 gt2 ge (δa a) (es a)=some (zs a)) ->
  tm gg dB gi2 gg2 gt2 ge δc (l.map enc)=some (l.flatMap zs)
 | [],_=>rfl
 | a::r,h=>by
  obtain⟨h1,h2,h3⟩:=h a ai
  have ih:=yI r λ b hb=>h b (ak _ hb)
  rw[List.map_cons,tm,h1,aa,Jt,aa,ae rfl,h2,aa,h3,aa,ih];rfl
theorem v_ {α:Type}(F:Nat->α)(n:Nat):((List.range n).map F).zipIdx=(List.range n).map λ a=>(F a,a):=by
 apply List.ext_getElem?
 intro i
 rw[List.getElem?_zipIdx,List.getElem?_map,List.getElem?_map]
 by_cases h:i<n
 ·rw[List.getElem?_range h];simp
 ·rw[List.getElem?_eq_none (by simpa using h)];rfl
theorem mU (t:Bool){x:Dt}(F:Nat->Dt)(n:Nat)(h:itB t x=some ((List.range n).map F)):EM t [x]=some ((List.range n).map λ a=>.tup [aM a,F a]):=by
 show(itB t x).map _=_
 rw[h,Option.map_some,v_,List.map_map];rfl
noncomputable def grL (w:Web):List (List Int):=(List.range w.1).flatMap λ b=>(List.range w.1).map λ a=>[-(mn w.2 b a),(a:Int),(b:Int)]
noncomputable def uf (x:List Int):Dt:=.tup (x.map .int)
noncomputable def Nj:List Int->Option Dt
 | [n,a,b]=>some (.tup [.int (-n),.int a,.int b])
 | _=>none
noncomputable def Ab:List Dt->Option Dt:=mq λ x=>(dT x).bind λ w=>(JJ (grL w)).bind Nj
noncomputable def tw:DE->Option RD:=(bP (eZ (aT 1 eP (aK (aN 0) aP))) (bP (dR 1 (Ls ["b","a","number"] [0] (lu (aK (bg dIx (aN 0) (gC (.int 0))) aP)) (ggN 0) dB (qj true (aK (aT 2 cC (aK (aN 3) (aK (aN 0) aP))) aP)) (fJ 1 2) dB (eU (aK (gUn pJ (aN 2)) (aK (aN 1) (aK (aN 0) aP)))))) (bP (qx (Lu 2 3 4) (bK EN (aK (aN 1) aP))) (cu (eU (aK (gUn pJ (aN 2)) (aK (aN 3) (aK (aN 4) aP))))))))
noncomputable abbrev Ac:List Str:=["tree","found","number","a","b"]
theorem GX (w:Web)(h:w.1<=8):(grL w).length<=1000:=by
 have:(grL w).length=w.1*w.1:=by
  unfold grL
  rw[List.length_flatMap]
  have:∀ l:List Nat,(l.map λ b=>((List.range w.1).map λ a=>[-(mn w.2 b a),(a:Int),(b:Int)]).length).sum=l.length*w.1:=λ l=>by
   induction l with
   | nil=>simp
   | cons x r ih=>rw[List.map_cons,List.sum_cons,ih,ah,List.length_range,List.length_cons,Nat.succ_mul];omega
  rw[this,List.length_range]
 rw[this]
 exact Nat.le_trans (Nat.mul_le_mul h h) (by decide)
theorem EU {α β γ:Type}(f:α->List β)(g:β->γ)(l:List α):l.flatMap (λ a=>(f a).map g)=(l.flatMap f).map g:=by rw[List.map_flatMap]
@[simp] theorem NQ {δ:DE} (own:List PySem.Str) (ix:List Nat) (gi gi2:DE->Option (List Dt)) (gg gg2:Dt->DE->Option DE) (t t2:DE->Option Bool) (g:DE->Option Dt):Ls own ix gi gg t gi2 gg2 t2 g δ=(gi δ).bind λ ds=>(tm gg t gi2 gg2 t2 g (mB own ix δ) ds).bind λ l=>if l.length<=1000 then some (.lst l) else none:=rfl
@[simp] theorem Nk {δ:DE} (t:Bool) (gs:DE->Option (List Dt)):qj t gs δ=(gs δ).bind (EM t):=rfl
@[simp] theorem Nl {δ:DE} (i j k:Nat) (x y z:Dt):Lu i j k (.tup [x,y,z]) δ=some (((δ.set i (some x)).set j (some y)).set k (some z)):=rfl
theorem HR:Hg 1 Ac Ab tw:=by
 intro ds d hl h
 obtain⟨x,rfl,h⟩:=dE h
 obtain⟨w,e1,h⟩:=aQ h
 obtain⟨t,e2,h3⟩:=aQ h
 obtain⟨e4,ht⟩:=vZ e1
 obtain⟨rfl,hg⟩:=d4 e4
 have c1:=yG e1
 have h8:=hg.da
 have hr:=gN (n:=w.1) (by omega)
 have hr:pz [aM w.1]=some ((List.range w.1).map aM):=hr
 have ix:dIx (bf w) (.int 0)=some (aM w.1):=rfl
 have lc:=yI (enc:=aM) (gg:=ggN 0) (gi2:=qj true (aK (aT 2 cC (aK (aN 3) (aK (aN 0) aP))) aP)) (gg2:=fJ 1 2) (gt2:=dB) (ge:=eU (aK (gUn pJ (aN 2)) (aK (aN 1) (aK (aN 0) aP)))) (δc:=[none,none,none,some (bf w)])
  (δa:=λ b=>[some (aM b),none,none,some (bf w)]) (es:=λ b=>(List.range w.1).map λ a=>Dt.tup [aM a,.int (mn w.2 b a)]) (zs:=λ b=>((List.range w.1).map λ a=>[-(mn w.2 b a),(a:Int),(b:Int)]).map uf) (List.range w.1) λ b hb=>⟨rfl,by
   have hb:b<w.1:=ay.mp hb
   have cm:=ET hg ht hb
   have en:=mU true (x:=.tup (((List.range w.1).map λ a=>mn w.2 b a).map .int)) (λ a=>.int (mn w.2 b a)) w.1 (by show some _=some _;rw[List.map_map];rfl)
   generalize ((List.range w.1).map λ a=>mn w.2 b a).map Dt.int=ps at cm en
   generalize bf w=ww at *
   generalize aM b=nb at *
   simp[cm,en],by
   have lm:=cP (enc:=λ a=>Dt.tup [aM a,.int (mn w.2 b a)]) (gg:=fJ 1 2) (ge:=eU (aK (gUn pJ (aN 2)) (aK (aN 1) (aK (aN 0) aP)))) (δc:=[some (aM b),none,none,some (bf w)]) (δa:=λ a=>[some (aM b),some (aM a),some (.int (mn w.2 b a)),some (bf w)]) (enc':=λ a=>uf [-(mn w.2 b a),(a:Int),(b:Int)]) (List.range w.1) λ a _=>⟨rfl,by simp[gUn,pJ,uf,aM]⟩
   rw[lm,List.map_map];rfl⟩
 rw[EU]at lc
 have lc:tm (ggN 0) dB (qj true (aK (aT 2 cC (aK (aN 3) (aK (aN 0) aP))) aP)) (fJ 1 2) dB (eU (aK (gUn pJ (aN 2)) (aK (aN 1) (aK (aN 0) aP)))) [none,none,none,some (bf w)] ((List.range w.1).map aM)=some ((grL w).map uf):=lc
 have hn:((grL w).map uf).length<=1000:=by rw[ah];exact GX w h8
 have mt:EN [.lst ((grL w).map uf)]=some (.tup (t.map .int)):=by
  show(tq ((grL w).map uf)).bind _=_
  rw[show(grL w).map uf=(grL w).map λ x=>.tup (x.map .int) from rfl,z9,aa,e2];rfl
 match t,h3 with
 | [n,a,b],h3 =>
  cases h3
  refine⟨.rt (.tup [.int (-n),.int a,.int b]),?_,rfl⟩
  have mt:EN [.lst ((grL w).map uf)]=some (.tup [.int n,.int a,.int b]):=mt
  generalize (grL w).map uf=gl at lc hn mt
  generalize (List.range w.1).map aM=rs at lc hr
  generalize bf w=ww at *
  simp only[aM]at ix hr
  simp[tw,c1,ix,aM,hr,lc,hn,mt,gUn,pJ]
theorem Good.great {w:Web}(g:Good w):∃ a b,a<w.1/\b<w.1/\JJ (grL w)=some [-(mn w.2 b a),(a:Int),(b:Int)]/\∀ a' b',a'<w.1->b'<w.1->mn w.2 b' a'<=mn w.2 b a:=by
 have h2:=g.two
 have mem:∀ t,t∈grL w↔∃ b,b<w.1/\∃ a,a<w.1/\[-(mn w.2 b a),(a:Int),(b:Int)]=t:=λ t=>by simp[grL]
 have in0:=(mem _).mpr ⟨0,by omega,0,by omega,rfl⟩
 cases hg:grL w with
 | nil=>rw[hg]at in0;cases in0
 | cons x r =>
  have all:∀ t∈x::r,∃ b,b<w.1/\∃ a,a<w.1/\[-(mn w.2 b a),(a:Int),(b:Int)]=t:=λ t ht=>(mem t).mp (by rw[hg];exact ht)
  have ne:∀ t∈x::r,t≠[]:=λ t ht=>by obtain⟨b,_,a,_,rfl⟩:=all t ht;simp
  have m:lsT x r∈x::r:=(Bz r x).elim (λ e=>by rw[e];exact ai) λ e=>ak _ e
  obtain⟨b,hb,a,ha,e⟩:=all _ m
  refine⟨a,b,ha,hb,by show some (lsT x r)=_;rw[e],λ a' b' ha' hb'=>?_⟩
  obtain⟨l1,l2⟩:=z_ r x (ne x ai) λ y hy=>ne y (ak _ hy)
  have h1:∀ y∈x::r,hd0 (lsT x r)<=hd0 y:=λ y hy=>(ar.mp hy).elim (λ z=>by rw[z];exact l1) (l2 y)
  have:=h1 [-(mn w.2 b' a'),(a':Int),(b':Int)] (by rw[<-hg];exact(mem _).mpr ⟨b',hb',a',ha',rfl⟩)
  rw[<-e]at this
  have:-(mn w.2 b a)<=-(mn w.2 b' a'):=this
  omega
noncomputable def gO:List Dt->Option Dt:=nJ λ x y=>(dW x).bind λ w=>(cw y).map λ p=>.lst (((List.range w.1).filter λ o=>decide (eX p o∈w.2)).map aM)
noncomputable def lG:DE->Option RD:=(cu (gLC ["_law_other"] [0,1] (lu (aK (bg dIx (aN 0) (gC (.int 0))) aP)) (ggN 0) (gB (bg (dIn false) (eU (aK (bK xU (aK (aN 2) (aK (aN 0) aP))) (aK (bK xV (aK (aN 2) (aK (aN 0) aP))) aP))) (bg dIx (aN 1) (gC (.int 1))))) (aN 0)))
noncomputable abbrev yJ:List Str:=["_law_web_here","_law_place"]
theorem JM (t:Nat×Nat)(l:List (Nat×Nat)):qD (bM t) (l.map bM)=decide (t∈l):=by
 unfold qD
 rw[Bool.eq_iff_iff,List.any_map]
 simp only[Function.comp_def,yC,List.any_eq_true,beq_iff_eq,decide_eq_true_eq]
 exact⟨λ⟨x,hx,e⟩=>by rw[<-e];exact hx,λ h=>⟨t,h,rfl⟩⟩
theorem Lz (neg:Bool)(t:Nat×Nat)(l:List (Nat×Nat)):dIn neg (bM t) (cT l)=some (.bl (if neg then !decide (t∈l) else decide (t∈l))):=by
 show(if ((l.map bM).all λ e=>sh2 e (bM t))=true then some (Dt.bl (if neg then !qD (bM t) (l.map bM) else qD (bM t) (l.map bM))) else none)=_
 rw[ae (by rw[List.all_map,List.all_eq_true];intro x _;rfl),JM]
theorem wa:Hg 2 yJ gO lG:=by
 intro ds d hl h
 obtain⟨x,y,rfl,h⟩:=fL h
 obtain⟨w,e4,h⟩:=aQ h
 obtain⟨p,e2,h⟩:=br h
 subst h
 obtain⟨rfl,hg⟩:=d4 e4
 rw[bJ e2]
 have h8:=hg.da
 have hr:pz [aM w.1]=some ((List.range w.1).map aM):=gN (n:=w.1) (by omega)
 have ix:dIx (bf w) (.int 0)=some (aM w.1):=rfl
 have ix1:dIx (bf w) (.int 1)=some (cT w.2):=rfl
 refine⟨.rt (.lst (((List.range w.1).filter λ o=>decide (eX p o∈w.2)).map aM)),?_,rfl⟩
 have lc:=eh (enc:=aM) (gg:=ggN 0) (gt:=gB (bg (dIn false) (eU (aK (bK xU (aK (aN 2) (aK (aN 0) aP))) (aK (bK xV (aK (aN 2) (aK (aN 0) aP))) aP))) (bg dIx (aN 1) (gC (.int 1))))) (ge:=aN 0) (δc:=[none,some (bf w),some (aM p)]) (δa:=λ o=>[some (aM o),some (bf w),some (aM p)]) (p:=λ o=>decide (eX p o∈w.2)) (enc':=aM) (List.range w.1) λ o ho=>⟨rfl,by
  have mn:=yD p o
  have mx:=yE p o
  have inn:=Lz false (eX p o) w.2
  have e:Dt.tup [aM (min p o),aM (max p o)]=bM (eX p o):=rfl
  generalize cT w.2=tt at *
  generalize bf w=ww at *
  generalize aM p=np at *
  generalize aM o=no at *
  generalize aM (min p o)=n1 at *
  generalize aM (max p o)=n2 at *
  generalize bM (eX p o)=ep at *
  simp[mn,mx,ix1,e,inn],λ _=>rfl⟩
 have hn:((List.range w.1).map aM).length<=1000:=by simp;omega
 generalize ((List.range w.1).filter λ o=>decide (eX p o∈w.2)).map aM=res at *
 generalize (List.range w.1).map aM=rs at *
 generalize bf w=ww at *
 simp only[aM]at ix hr lc
 simp[lG,aM,ix,hr,lc,hn]
end L2
namespace L2
open PySem PySem.W PySem.Spec PyProof.Rows Zp PySem.SeqAt Tb
section
variable {X:Cx}{pins:List (Addr×Obj)}{σ:St}{H:Hp}{s:Shared}{tg e:Expr}
theorem Inv.freeze {a:Addr}{o:Obj}{kvs:List (Key×V)}(I:Inv X pins σ H s)(ha:H a=some (.dK kvs))(ho:s.heap.get? a=some o):Inv X pins σ (upd H a (.frz o (.dK kvs))) s:=by
 have ne:∀ {b:Addr} {u:HO},H b=some u->u≠.dK kvs->b≠a:=λ e n z=>by subst z;rw[e]at ha;exact n (ao ha)
 have nn:∀ {b:Addr},H b=none->b≠a:=λ e z=>by subst z;rw[e]at ha;cases ha
 refine⟨I.ok,I.os,I.bare,⟨I.base.keep,I.base.slot,λ b o' e n hx=>?_,I.base.there,λ b xs e=>?_,λ b o' u e=>?_,λ b ps e=>?_⟩,I.loc,I.cell,?_,λ x c e=>?_,λ p hp=>?_,λ b u e=>?_,I.len⟩
 ·have:=I.base.free b o' e n hx
  rw[aV (nn this)];exact this
 ·have:=I.base.jE b xs e
  rw[aV (ne this (by intro z;cases z))];exact this
 ·have:=I.base.jn b o' u e
  rw[aV (ne this (by intro z;cases z))];exact this
 ·obtain⟨more,this⟩:=I.base.mJ b ps e
  exact⟨more,by rw[aV (ne this (by intro z;cases z))];exact this⟩
 ·rw[aV (nn I.free)];exact I.free
 ·rw[aV (nn (I.g9 x c e))];exact I.g9 x c e
 ·obtain⟨h1,h2,h3⟩:=I.pin p hp
  exact⟨h1,by rw[aV (nn h2)];exact h2,h3⟩
 ·have st:∀ {b:Addr} {u:HO},cE X.prog X.w H s.heap b u->cE X.prog X.w (upd H a (.frz o (.dK kvs))) s.heap b u:=λ x =>
   x.tQ (λ c v _ q=>q) (λ _ q=>by rw[aV (ne q (by intro z;cases z))];exact q) λ _ _ q=>by rw[aV (ne q (by intro z;cases z))];exact q
  by_cases hb:b=a
  ·subst hb
   rw[aU]at e
   cases e
   exact⟨ho,st (I.hok _ _ ha)⟩
  ·rw[aV hb]at e
   exact st (I.hok _ _ e)
theorem Inv.GY {a:Addr}{o:Obj}{kvs:List (Key×V)}(I:Inv X pins σ H s)(ha:H a=some (.frz o (.dK kvs)))(nf:∀ o' u,X.H₀ a≠some (.frz o' u)):Inv X pins σ (upd H a (.dK kvs)) s:=by
 have ne:∀ {b:Addr} {u:HO},H b=some u->u≠.frz o (.dK kvs)->b≠a:=λ e n z=>by subst z;rw[e]at ha;exact n (ao ha)
 have nn:∀ {b:Addr},H b=none->b≠a:=λ e z=>by subst z;rw[e]at ha;cases ha
 refine⟨I.ok,I.os,I.bare,⟨I.base.keep,I.base.slot,λ b o' e n hx=>?_,I.base.there,λ b xs e=>?_,λ b o' u e=>?_,λ b ps e=>?_⟩,I.loc,I.cell,?_,λ x c e=>?_,λ p hp=>?_,λ b u e=>?_,I.len⟩
 ·have:=I.base.free b o' e n hx
  rw[aV (nn this)];exact this
 ·have:=I.base.jE b xs e
  rw[aV (ne this (by intro z;cases z))];exact this
 ·have:=I.base.jn b o' u e
  rw[aV (λ z=>by subst z;exact nf _ _ e)];exact this
 ·obtain⟨more,this⟩:=I.base.mJ b ps e
  exact⟨more,by rw[aV (ne this (by intro z;cases z))];exact this⟩
 ·rw[aV (nn I.free)];exact I.free
 ·rw[aV (nn (I.g9 x c e))];exact I.g9 x c e
 ·obtain⟨h1,h2,h3⟩:=I.pin p hp
  exact⟨h1,by rw[aV (nn h2)];exact h2,h3⟩
 ·have st:∀ {b:Addr} {u:HO},cE X.prog X.w H s.heap b u->cE X.prog X.w (upd H a (.dK kvs)) s.heap b u:=λ x =>
   x.tQ (λ c v _ q=>q) (λ _ q=>by rw[aV (ne q (by intro z;cases z))];exact q) λ _ _ q=>by rw[aV (ne q (by intro z;cases z))];exact q
  by_cases hb:b=a
  ·subst hb
   rw[aU]at e
   cases e
   exact st (I.hok _ _ ha).2
  ·rw[aV hb]at e
   exact st (I.hok _ _ e)
noncomputable def fzE (a:Addr)(o:Obj)(kvs:List (Key×V))(D:Ends):Ends :=
 ⟨λ σ H=>H a=some (.frz o (.dK kvs))/\D.nx σ (upd H a (.dK kvs)),λ v H=>H a=some (.frz o (.dK kvs))/\D.rt v (upd H a (.dK kvs)),λ σ H=>H a=some (.frz o (.dK kvs))/\D.bk σ (upd H a (.dK kvs)),λ σ H=>H a=some (.frz o (.dK kvs))/\D.ct σ (upd H a (.dK kvs))⟩
noncomputable def tFz (t:TS):TS:=λ D σ H=>t D σ H\/∃ a kvs,H a=some (.dK kvs)/\∀ o,t (fzE a o kvs D) σ (upd H a (.frz o (.dK kvs)))
theorem LA {st:Stmt}{t:TS}(h:PS X st t):PS X st (tFz t):=λ pins s σ H D I z=>by
 rcases z with z | ⟨a,kvs,ha,k⟩
 ·exact h pins s σ H D I z
 obtain⟨_,_,vs,kv,o,es,ep,ho,_⟩:=Dy I.hok ha
 have nf:∀ o' u,X.H₀ a≠some (.frz o' u):=λ o' u e=>by have:=I.base.jn _ _ _ e;rw[ha]at this;cases this
 refine thn (h pins s σ _ _ (I.freeze ha ho) (k o)) λ f s' q=>?_
 cases f with
 | next=>obtain⟨σ',H',I',q1,q2⟩:=q;exact⟨σ',_,I'.GY q1 nf,q2⟩
 | brk=>obtain⟨σ',H',I',q1,q2⟩:=q;exact⟨σ',_,I'.GY q1 nf,q2⟩
 | cont=>obtain⟨σ',H',I',q1,q2⟩:=q;exact⟨σ',_,I'.GY q1 nf,q2⟩
 | ret u=>obtain⟨v,σ',H',I',r,q1,q2⟩:=q;exact⟨v,σ',_,I'.GY q1 nf,r,q2⟩
noncomputable def Itd (a:Addr)(o:Obj)(kvs:List (Int×Int)):It :=
 ⟨λ i H=>H a=some (.frz o (.dK (kvD kvs)))/\i<kvs.length,λ i H x H'=>H'=H/\∃ p,kvs[i]?=some p/\x=.int p.1,λ i H=>H a=some (.frz o (.dK (kvD kvs)))/\kvs.length<=i⟩
theorem HS:∀ {kvs:List (Int×Int)} {vs:List (Key×Value)} {i:Nat} {p:Int×Int},KV (kvD kvs) vs->kvs[i]?=some p->∃ v,vs[i]?=some (Sum.inl p.1,v)
 | [],vs,i,p,kv,e=>by simp at e
 | q::r,vs,i,p,kv,e=>by
  cases kv with
  | @cons _ y _ ys h t =>
   cases i with
   | zero =>
    have e:some q=some p:=e
    cases e
    exact⟨y.2,by rw[show q.1=q.1 from rfl];show some y=_;rw[show(Sum.inl q.1:Key)=y.1 from h.1]⟩
   | succ i =>
    obtain⟨v,hv⟩:=HS (i:=i) t e
    exact⟨v,hv⟩
theorem CG {P:Program}{w:World}{K:PySem.W.Frag}{tg:Expr}(a it:Addr)(o:Obj)(kvs:List (Int×Int)){es:Array DictEntry}{ep:Nat}(hd:o.data=.dict es ep) :
  Turn P w K tg (Itd a o kvs) [it] it (λ i h=>h.IsKeyIter it a i kvs.length ep) where
 mem:=by simp
 obj:=λ i h st b hb=>by
  have e:b=it:=by simpa using hb
  subst e
  obtain⟨o,e,c,d⟩:=st
  exact⟨o,e,λ v z=>by rw[d]at z;cases z⟩
 keep:=λ i h h' st k=>by
  obtain⟨o,e,c,d⟩:=st
  exact⟨o,k it (by simp) o e,c,d⟩
 item:=by
  intro X hP hw hK hc i pins s σ H E I hf st hg
  subst hP hw hK
  obtain⟨ha,hi⟩:=hg
  obtain⟨ho,hz,lo,vs,kv,o',es',ep',ho',ex,hd',r⟩:=(show cE X.prog X.w H s.heap a (.frz o (.dK (kvD kvs))) from I.hok _ _ ha)
  rw[ho]at ho';cases ho'
  rw[hd]at hd';cases hd'
  have hl:vs.length=kvs.length:=by have:=kv.length;simpa [kvD] using this.symm
  obtain⟨f0,f1,f2,f3,f4,f5⟩:=hf it (by simp)
  have hp:kvs[i]?=some kvs[i]:=by simp[hi]
  obtain⟨v,hv⟩:=HS kv hp
  refine wpAny_pyNext_dict_item (knd:=cv X.prog X.w) (kvs:=vs) (by rw[hl];exact st) ⟨o,es,ho,ex,hd,r⟩ hv λ key h' hk st' sb=>?_
  have hk:pZ (Sum.inl kvs[i].1) key=true:=hk
  obtain⟨t',e4⟩:=Value.isInt_shape (show Value.isInt kvs[i].1 key=true from hk)
  subst e4
  have I1:Inv X pins σ H {s with heap:=h'}:=I.turned (t':=s.toks) (λ b o hb e=>(sb.2 b hb).trans e) f0 f1 f3 f4 f5
  obtain⟨o2,e,c,d⟩:=id st'
  exact⟨_,rfl,AE (s:={s with heap:=h'}) e c d (by decide) ⟨.int kvs[i].1,H,I1,⟨t',rfl⟩,⟨rfl,_,hp,rfl⟩,by rw[<-hl];exact st',λ b hb=>(hf b hb).1⟩⟩
 done:=by
  intro X hP hw hK hc i pins s σ H E I hf st hg
  subst hP hw hK
  obtain⟨ha,hi⟩:=hg
  obtain⟨ho,hz,lo,vs,kv,o',es',ep',ho',ex,hd',r⟩:=(show cE X.prog X.w H s.heap a (.frz o (.dK (kvD kvs))) from I.hok _ _ ha)
  rw[ho]at ho';cases ho'
  rw[hd]at hd';cases hd'
  have hl:vs.length=kvs.length:=by have:=kv.length;simpa [kvD] using this.symm
  obtain⟨f0,f1,f2,f3,f4,f5⟩:=hf it (by simp)
  exact wpAny_pyNext_dict_end (knd:=cv X.prog X.w) (kvs:=vs) (I.ok.hd hc) (by rw[hl];exact st) ⟨o,es,ho,ex,hd,r⟩ (by simp;omega) λ h' eb=>⟨rfl,I.turned (t':=s.toks) (λ b o hb e=>eb b o hb e) f0 f1 f3 f4 f5⟩
 self:=λ _ _ _ _ _ st h=>wpAny_pyIter_keyiter st h
noncomputable def LB (tl:TE):TI:=λ σ H R=>tl σ H λ x H1=>∃ a o kvs,x=.ref a/\H1 a=some (.frz o (.dK (kvD kvs)))/\R (Itd a o kvs) H1
theorem JN {l:Expr}{tl:TE}(hl:PE X l tl):PI X tg l (LB tl):=by
 intro pins s σ H R I h
 refine thn (hl pins s σ H _ I h) λ v s1 ⟨x,H1,I1,r1,q1⟩=>?_
 obtain⟨a,o,kvs,e,ha,q⟩:=q1
 subst e
 cases r1
 obtain⟨ho,hz,lo,vs,kv,o',es,ep,ho',ex,hd,r⟩:=(show cE X.prog X.w H1 s1.heap a (.frz o (.dK (kvD kvs))) from I1.hok _ _ ha)
 rw[ho]at ho';cases ho'
 have hl:vs.length=kvs.length:=by have:=kv.length;simpa [kvD] using this.symm
 refine wpAny_pyIter_dict (knd:=cv X.prog X.w) (kvs:=vs) lo ⟨o,es,ho,ex,hd,r⟩ ?_
 refine⟨s1.heap.objs.size,[s1.heap.objs.size],_,_,H1,rfl,I1.kept (t':=s1.toks) λ b o e=>aC _ e,CG a _ o kvs hd,⟨_,aG _ rfl,rfl,by rw[hl];rfl⟩,λ b hb=>?_,q⟩
 have e:b=s1.heap.objs.size:=by simpa using hb
 subst e
 exact I1.BW (ag _) (I1.hok.fresh (ag _))
theorem GZ {a:Addr}{o:Obj}{kvs:List (Int×Int)}{g:TG}{tb:TS}{D:Ends}{σ:St}{H:Hp}(Pv:Nat->St->Hp->Prop)(h0:Pv 0 σ H)(hl:∀ i σ H,Pv i σ H->H a=some (.frz o (.dK (kvD kvs))))
  (hs:∀ i p σ H,kvs[i]?=some p->Pv i σ H->g (.int p.1) σ H λ σ2 H2=>tb {D with nx:=Pv (i+1),ct:=Pv (i+1),bk:=D.nx} σ2 H2) (hd:∀ σ H,Pv kvs.length σ H->D.nx σ H) :
  ∃ W:Nat->Nat->St->Hp->Prop,(∃ m,W 0 m σ H)/\∀ i m σ H,W i m σ H ->
   ((Itd a o kvs).stop i H/\D.nx σ H)\/((Itd a o kvs).go i H/\∃ N:St->Hp->Prop,(∀ σ' H',N σ' H'->∃ m',m'<m/\W (i+1) m' σ' H')/\∀ x H',(Itd a o kvs).yld i H x H'->g x σ H' λ σ2 H2=>tb {D with nx:=N,ct:=N,bk:=D.nx} σ2 H2):=by
 refine⟨λ i m σ H=>m=kvs.length-i/\i<=kvs.length/\Pv i σ H,⟨kvs.length,by simp,Nat.zero_le _,h0⟩,?_⟩
 rintro i m σ H ⟨rfl,hi,p⟩
 by_cases hlt:i<kvs.length
 ·refine .inr ⟨⟨hl i σ H p,hlt⟩,Pv (i+1),λ σ' H' p'=>⟨kvs.length-(i+1),by omega,rfl,hlt,p'⟩,λ x H' y=>?_⟩
  obtain⟨rfl,q,hq,rfl⟩:=y
  exact hs i q σ _ hq p
 ·have e:i=kvs.length:=by omega
  subst e
  exact .inl ⟨⟨hl _ σ H p,ag _⟩,hd σ H p⟩
end
end L2
namespace L2
open PySem PySem.Spec PyProof.Rows Zp Qs
noncomputable def mpD (F:Nat->Int)(ks:List Nat):List (Int×Int):=ks.map λ(j:Nat)=>((j:Int),F j)
theorem pL (F:Nat->Int)(k:Nat):∀ (ks:List Nat),eu (mpD F ks) (k:Int)=if k∈ks then some (F k) else none
 | []=>rfl
 | j::r=>by
  have ih:=pL F k r
  have e:eu (mpD F (j::r)) (k:Int)=if (j:Int)=(k:Int) then some (F j) else eu (mpD F r) (k:Int):=by
   unfold eu mpD
   rw[List.map_cons,List.find?_cons]
   by_cases c:(j:Int)=(k:Int)
   ·simp[c]
   ·simp[c]
  rw[e,ih]
  by_cases c:j=k
  ·subst c;simp
  ·rw[af (by omega)]
   by_cases c2:k∈r
   ·rw[ae c2,ae (ak _ c2)]
   ·rw[af c2,af (λ z=>(ar.mp z).elim (λ z=>c z.symm) c2)]
theorem EV {F:Nat->Int}{ks:List Nat}{k:Nat}(h:k∈ks):qC (.dct (mpD F ks)) (aM k)=some (.int (F k)):=by
 show(eu (mpD F ks) (k:Int)).map Dt.int=_
 rw[pL,ae h];rfl
theorem JO {F:Nat->Int}{ks:List Nat}{k:Nat}(h:k∉ks):putK (kvD (mpD F ks)) (Sum.inl (k:Int)) (.int (F k))=kvD (mpD F (ks++[k])):=by
 have e:gH (kvD (mpD F ks)) (Sum.inl (k:Int))=none:=by rw[n_,pL,af h];rfl
 rw[rO _ e]
 simp[kvD,mpD]
noncomputable def ksI (l:List (Nat×Nat))(b i:Nat):List Nat:=b::((keys (bfs l b)).take i).filter λ k=>decide (k≠b)
theorem EW (l:List (Nat×Nat))(b:Nat):ksI l b 0=[b]:=rfl
theorem EX {l:List (Nat×Nat)}{b i k:Nat}(h:(keys (bfs l b))[i]?=some k):ksI l b (i+1)=if k=b then ksI l b i else ksI l b i++[k]:=by
 unfold ksI
 rw[List.take_succ,h]
 by_cases c:k=b
 ·rw[ae c,List.filter_append];simp[c]
 ·rw[af c,List.filter_append];simp[c]
theorem G0 {l:List (Nat×Nat)}{b i k:Nat}(h:(keys (bfs l b))[i]?=some k)(c:k≠b):k∉ksI l b i:=by
 unfold ksI
 intro m
 rcases ar.mp m with z | z
 ·exact c z
 ·have z:=(List.mem_filter.mp z).1
  obtain⟨j,hj,e⟩:=List.getElem_of_mem z
  have nd:=(ee l b).nd
  have hj':j<i:=by rw[List.length_take]at hj;omega
  rw[List.getElem_take]at e
  have hi:=(List.getElem?_eq_some_iff.mp h)
  obtain⟨hi,ei⟩:=hi
  exact List.pairwise_iff_getElem.mp nd j i (by omega) hi hj' (e.trans ei.symm)
section
variable {w:Web}(g:Good w)
include g
theorem Good.EY {b i v:Nat}(hb:b<w.1)(h:(keys (bfs w.2 b))[i]?=some v)(c:v≠b):nx w.2 b v∈ksI w.2 b i:=by
 have vk:v∈keys (bfs w.2 b):=List.mem_of_getElem? h
 have hv:v<w.1:=(g.inKeys hb).mp vk
 obtain⟨n1,n2,_⟩:=g.nX hb hv c
 by_cases z:nx w.2 b v=b
 ·rw[z];exact ai
 refine ak _ (List.mem_filter.mpr ⟨?_,by simpa using z⟩)
 have fr:=ee w.2 b
 have um:=g.z6 hb (g.Lo hb hv c)
 obtain⟨j,hj,ej⟩:=List.getElem_of_mem um
 have hi:i<(bfs w.2 b).length:=by have:=(List.getElem?_eq_some_iff.mp h).1;simpa [keys] using this
 have ei:(bfs w.2 b)[i].1=v:=by
  have:=(List.getElem?_eq_some_iff.mp h).2
  simpa [keys] using this
 have ed:(bfs w.2 b)[i].2=ds w.2 b v:=by
  have:look (bfs w.2 b) (bfs w.2 b)[i].1=(bfs w.2 b)[i].2:=iN fr.nd (List.getElem_mem hi)
  rw[ei]at this
  exact this.symm
 have lt:j<i:=by
  rcases Nat.lt_or_ge j i with q | q
  ·exact q
  ·exfalso
   have e2:(bfs w.2 b)[j].2=ds w.2 b (nx w.2 b v):=by rw[ej]
   rcases Nat.lt_or_eq_of_le q with q | q
   ·have:=List.pairwise_iff_getElem.mp fr.ord i j hi hj q
    omega
   ·subst q;omega
 rw[List.mem_iff_getElem?]
 refine⟨j,?_⟩
 rw[List.getElem?_take_of_lt lt]
 show((bfs w.2 b).map (·.1))[j]?=_
 rw[List.getElem?_map,aF hj,ej];rfl
theorem Good.G1 {b v:Nat}(hb:b<w.1)(hv:v<w.1):v∈ksI w.2 b (bfs w.2 b).length:=by
 unfold ksI
 rw[List.take_of_length_le (by simp[keys])]
 by_cases c:v=b
 ·rw[c];exact ai
 ·exact ak _ (List.mem_filter.mpr ⟨(g.inKeys hb).mpr hv,by simpa using c⟩)
end
noncomputable def k1:DE->Option RD:=qx (fJ 2 3) (aN 0)
noncomputable def k2:DE->Option RD:=dR 4 (aT 2 dG (aK (aN 3) (aK (aN 1) aP)))
noncomputable def kC:DE->Option Bool:=gB (bg fX (aN 6) (aN 1))
noncomputable def kF:DE->Option Dt:=aT 3 fN (aK (aN 3) (aK (aN 4) (aK (aN 6) aP)))
noncomputable def kV':DE->Option Dt:=bg (dI (·+·)) (bg qC (aN 5) (aN 7)) (aT 1 fO (aK (bK iI (aK (aT 3 gx (aK (aN 3) (aK (aN 7) (aK (aN 6) aP)))) aP)) aP))
noncomputable def kR:DE->Option RD:=cu (bK jv (aK (gLC ["place"] [5] (lu (aK (aN 2) aP)) (ggN 0) dB (bg qC (aN 1) (aN 0))) aP))
noncomputable def kB (K:PySem.W.Frag):TS:=C_ (tDT K kC) (dP (gG (tD K kF) (bT 7)) (DA (bF 5) (bF 6) (tD K kV'))) xa
noncomputable def kL (K:PySem.W.Frag):TS:=xc (LB (bF 4)) (bT 6) (kB K)
noncomputable def kW (K:PySem.W.Frag):TS:=dP (gG (DC [(bF 1,tC (V.int 0))]) (bT 5)) (dP (tFz (kL K)) (tDS K kR))
noncomputable def kAA (K:PySem.W.Frag):TS:=dP (tDS K k1) (dP (tDS K k2) (kW K))
noncomputable abbrev cV (k:Nat):V:=.int k
noncomputable abbrev sgK (vt v3:V)(b n:Nat)(f p:Addr)(pl fo:Option V):L2.St:=[some vt,some (cV b),some (cV n),some v3,some (.ref f),some (.ref p),pl,fo]
theorem stE {K:PySem.W.Frag}{H:Hp}:Sat K H [] []:=⟨rfl,λ _ _ h=>by cases h⟩
theorem stN {K:PySem.W.Frag}{H:Hp}{x:Option V}{σ:L2.St}{δ:DE}(h:Sat K H σ δ):Sat K H (x::σ) (none::δ):=⟨congrArg (·+1) h.len,λ j d hj=>by
 cases j with
 | zero=>cases hj
 | succ j=>exact h.at_ j d hj⟩
theorem stS {K:PySem.W.Frag}{H:Hp}{v:V}{d:Dt}{σ:L2.St}{δ:DE}(i:Is K H v d)(h:Sat K H σ δ):Sat K H (some v::σ) (some d::δ):=⟨congrArg (·+1) h.len,λ j d hj=>by
 cases j with
 | zero=>cases hj;exact⟨_,rfl,i⟩
 | succ j=>exact h.at_ j d hj⟩
section
variable {K:PySem.W.Frag}{w:Web}(g:Good w)
include g
theorem Good.JP (tr:w.2.length+1=w.1){b:Nat}(hb:b<w.1):k1 [some (bf w),some (aM b),none,none,none,none,none,none]=some (.nx [some (bf w),some (aM b),some (aM w.1),some (cT w.2),none,none,none,none]) /\
  k2 [some (bf w),some (aM b),some (aM w.1),some (cT w.2),none,none,none,none]=some (.nx [some (bf w),some (aM b),some (aM w.1),some (cT w.2),some (.dct (bL (bfs w.2 b))),none,none,none]):=by
 have dk:=yF (lU w.2) (by have:=g.len;omega) b
 refine⟨rfl,?_⟩
 generalize Dt.dct (bL (bfs w.2 b))=dd at *
 generalize cT w.2=tt at *
 generalize aM b=nb at *
 generalize bf w=ww at *
 simp[k2,dk]
omit g in
theorem LC (x0 x2 x3 x4 x5 x7:Option Dt)(b v:Nat):kC [x0,some (aM b),x2,x3,x4,x5,some (aM v),x7]=some (decide (v≠b)):=by
 have e:((v:Int)==(b:Int))=(v==b):=iM v b
 simp[kC,aM,e]
 rw[Bool.eq_iff_iff];simp
theorem Good.LD {b v:Nat}(hb:b<w.1)(hv:v<w.1)(ne:v≠b)(x0 x1 x2 x5 x7:Option Dt):kF [x0,x1,x2,some (cT w.2),some (.dct (bL (bfs w.2 b))),x5,some (aM v),x7]=some (aM (nx w.2 b v)):=by
 obtain⟨n1,n2,n3⟩:=g.nX hb hv ne
 have np:fN [cT w.2,.dct (bL (bfs w.2 b)),aM v]=some (aM (nx w.2 b v)):=by
  show(dTs (cT w.2)).bind (λ l=>(dD (.dct (bL (bfs w.2 b)))).bind λ fd=>(cw (aM v)).bind λ p=>if l.length<=30/\fB fd p=true/\(∀ q∈L2.nb l p,fB fd q=true) then (((L2.nb l p).filter λ q=>decide (look fd q<look fd p)).map aM)[0]? else none)=_
  rw[lU,JG,bH,aa,aa,aa,ae ⟨by have:=g.len;omega,g.key hb hv,λ q hq=>g.key hb (g.cq hq).1⟩]
  show(((L2.nb w.2 v).filter λ q=>decide (ds w.2 b q<ds w.2 b v)).map aM)[0]?=some (aM (((L2.nb w.2 v).filter (λ u=>decide (ds w.2 b u<ds w.2 b v))).headD 0))
  generalize (L2.nb w.2 v).filter (λ u=>decide (ds w.2 b u<ds w.2 b v))=l at n3
  cases l with
  | nil=>exact absurd rfl n3
  | cons x r=>rfl
 generalize Dt.dct (bL (bfs w.2 b))=dd at *
 generalize cT w.2=tt at *
 generalize aM (nx w.2 b v)=res at *
 generalize aM v=nv at *
 simp[kF,np]
theorem Good.LF (tr:w.2.length+1=w.1){b v i:Nat}(hb:b<w.1)(hv:v<w.1)(ne:v≠b)(hi:nx w.2 b v∈ksI w.2 b i)(x0 x1 x2 x4:Option Dt) :
  kV' [x0,x1,x2,some (cT w.2),x4,some (.dct (mpD (mn w.2 b) (ksI w.2 b i))),some (aM v),some (aM (nx w.2 b v))]=some (.int (mn w.2 b v)):=by
 obtain⟨n1,n2,_⟩:=g.nX hb hv ne
 have gm:=EV (F:=mn w.2 b) hi
 have hl:w.2.length<=30:=by have:=g.len;omega
 have h8:=g.da
 have pb:gx [cT w.2,aM (nx w.2 b v),aM v]=some (.tup ((sk (bfs (cut w.2 (nx w.2 b v) v) v)).map aM)):=by
  show(dTs (cT w.2)).bind (λ l=>(cw (aM (nx w.2 b v))).bind λ a=>(cw (aM v)).bind λ b=>if l.length<=30 then some (Dt.tup ((sk (bfs (cut l a b) b)).map aM)) else none)=_
  rw[lU,bH,bH,aa,aa,aa,ae hl]
 have nbv:v∈nb w.2 (nx w.2 b v):=by rw[g.sV,uV];exact g.sV.mp n1
 have sl:=g.Ly tr nbv
 have ll:(((sk (bfs (cut w.2 (nx w.2 b v) v) v)).map aM).length:Int)=((sz w.2 (nx w.2 b v) v:Nat):Int):=by rw[ah,JL];rfl
 have so:fO [Dt.int (((sk (bfs (cut w.2 (nx w.2 b v) v) v)).map aM).length:Int)]=some (.int (ov w.2 v (nx w.2 b v))):=by rw[ll];exact Lx (by omega)
 have st:=g.vX hb hv ne
 rw[st]
 generalize (sk (bfs (cut w.2 (nx w.2 b v) v) v)).map aM=ps at *
 generalize Dt.dct (mpD (mn w.2 b) (ksI w.2 b i))=dd at *
 generalize cT w.2=tt at *
 generalize aM (nx w.2 b v)=res at *
 generalize aM v=nv at *
 simp[kV',gm,pb,so]
theorem Good.LG {b:Nat}(hb:b<w.1)(x0 x1 x3 x4 x6 x7:Option Dt):kR [x0,x1,some (aM w.1),x3,x4,some (.dct (mpD (mn w.2 b) (ksI w.2 b (bfs w.2 b).length))),x6,x7]=some (.rt (.tup (((List.range w.1).map λ a=>mn w.2 b a).map .int))):=by
 have h8:=g.da
 have hr:pz [aM w.1]=some ((List.range w.1).map aM):=gN (n:=w.1) (by omega)
 have lc:=cP (enc:=aM) (gg:=ggN 0) (ge:=bg qC (aN 1) (aN 0)) (δc:=[none,some (.dct (mpD (mn w.2 b) (ksI w.2 b (bfs w.2 b).length)))]) (δa:=λ v=>[some (aM v),some (.dct (mpD (mn w.2 b) (ksI w.2 b (bfs w.2 b).length)))]) (enc':=λ v=>.int (mn w.2 b v)) (List.range w.1) λ v hv=>⟨rfl,by
  have gm:=EV (F:=mn w.2 b) (g.G1 hb (ay.mp hv))
  generalize Dt.dct (mpD (mn w.2 b) (ksI w.2 b (bfs w.2 b).length))=dd at *
  generalize aM v=nv at *
  simp[gm]⟩
 have hn:((List.range w.1).map aM).length<=1000:=by simp;omega
 rw[List.map_map]
 have e:(List.range w.1).map (Dt.int∘λ a=>mn w.2 b a)=(List.range w.1).map λ v=>.int (mn w.2 b v):=rfl
 rw[e]
 generalize (List.range w.1).map (λ v=>Dt.int (mn w.2 b v))=res at *
 generalize (List.range w.1).map aM=rs at *
 generalize Dt.dct (mpD (mn w.2 b) (ksI w.2 b (bfs w.2 b).length))=dd at *
 generalize aM w.1=nw at *
 simp[kR,hr,lc,hn]
structure KI (K:PySem.W.Frag)(w:Web)(vt v3:V)(b:Nat)(f p:Addr)(o:Obj)(Hg H:Hp)(i:Nat):Prop where
 but:∀ c u,Hg c=some u->c≠p->H c=some u
 hf:H f=some (.frz o (.dK (kvD (bL (bfs w.2 b)))))
 hp:H p=some (.dK (kvD (mpD (mn w.2 b) (ksI w.2 b i))))
 i0:Is K H vt (bf w)
 i3:Is K H v3 (cT w.2)
omit g in
theorem KI.sat {vt v3:V}{b:Nat}{f p:Addr}{o:Obj}{Hg H:Hp}{i:Nat}(x:KI K w vt v3 b f p o Hg H i)(v:Nat)(fo:Option V) :
  Sat K H (sgK vt v3 b w.1 f p (some (cV v)) fo) [some (bf w),some (aM b),some (aM w.1),some (cT w.2),some (.dct (bL (bfs w.2 b))),some (.dct (mpD (mn w.2 b) (ksI w.2 b i))),some (aM v),none] :=
 stS x.i0 (stS (.int _) (stS (.int _) (stS x.i3 (stS (.dct (.inr ⟨o,x.hf⟩)) (stS (.dct (.inl x.hp)) (stS (.int _) (stN stE)))))))
omit g in
theorem KI.sat' {vt v3:V}{b:Nat}{f p:Addr}{o:Obj}{Hg H:Hp}{i:Nat}(x:KI K w vt v3 b f p o Hg H i)(pl fo:Option V) :
  Sat K H (sgK vt v3 b w.1 f p pl fo) [some (bf w),some (aM b),some (aM w.1),some (cT w.2),some (.dct (bL (bfs w.2 b))),some (.dct (mpD (mn w.2 b) (ksI w.2 b i))),none,none] :=
 stS x.i0 (stS (.int _) (stS (.int _) (stS x.i3 (stS (.dct (.inr ⟨o,x.hf⟩)) (stS (.dct (.inl x.hp)) (stN (stN stE)))))))
omit g in
theorem KI.ext {vt v3:V}{b:Nat}{f p:Addr}{o:Obj}{Hg H H':Hp}{i:Nat}(x:KI K w vt v3 b f p o Hg H i)(s:a_ H H'):KI K w vt v3 b f p o Hg H' i :=
 ⟨λ c u e n=>s _ _ (x.but c u e n),s _ _ x.hf,s _ _ x.hp,x.i0.ext s,x.i3.ext s⟩
theorem Good.JQ (tr:w.2.length+1=w.1){D:Ends}{vt v3:V}{b i v:Nat}{f p:Addr}{o:Obj}{fo:Option V}{Hg H:Hp}(hb:b<w.1)(hv:(keys (bfs w.2 b))[i]?=some v)(x:KI K w vt v3 b f p o Hg H i)(pf:p≠f)
  (h:∀ fo H',KI K w vt v3 b f p o Hg H' (i+1)->D.nx (sgK vt v3 b w.1 f p (some (cV v)) fo) H'):kB K D (sgK vt v3 b w.1 f p (some (cV v)) fo) H:=by
 have hvw:v<w.1:=(g.inKeys hb).mp (List.mem_of_getElem? hv)
 refine⟨_,decide (v≠b),x.sat v fo,LC ..,λ H1 s1=>?_⟩
 have x1:=x.ext s1
 have st:=EX hv
 show(if decide (v≠b)=true then _ else _)
 by_cases c:v=b
 ·rw[af (by simp[c])]
  rw[ae c]at st
  exact h fo H1 ⟨x1.but,x1.hf,by rw[st];exact x1.hp,x1.i0,x1.i3⟩
 ·rw[ae (by simp[c])]
  rw[af c]at st
  refine⟨_,_,x1.sat v fo,g.LD hb hvw c ..,λ u H2 s2 iu=>?_⟩
  rw[iu.int_inv]
  have x2:=x1.ext s2
  have near:=g.EY hb hv c
  have S2:Sat K H2 (sgK vt v3 b w.1 f p (some (cV v)) (some (cV (nx w.2 b v)))) [some (bf w),some (aM b),some (aM w.1),some (cT w.2),some (.dct (bL (bfs w.2 b))),some (.dct (mpD (mn w.2 b) (ksI w.2 b i))),some (aM v),some (aM (nx w.2 b v))] :=
   stS x2.i0 (stS (.int _) (stS (.int _) (stS x2.i3 (stS (.dct (.inr ⟨o,x2.hf⟩)) (stS (.dct (.inl x2.hp)) (stS (.int _) (stS (.int _) stE)))))))
  refine⟨_,_,S2,g.LF tr hb hvw c near ..,λ r H3 s3 i3=>?_⟩
  rw[i3.int_inv]
  have x3:=x2.ext s3
  have hlen:(kvD (mpD (mn w.2 b) (ksI w.2 b i))).length<sizeLine:=by
   have l1:(kvD (mpD (mn w.2 b) (ksI w.2 b i))).length=(ksI w.2 b i).length:=by simp[kvD,mpD]
   have l2:(ksI w.2 b i).length<=1+(keys (bfs w.2 b)).length:=by
    unfold ksI
    rw[List.length_cons]
    have:=List.length_filter_le (λ k=>decide (k≠b)) ((keys (bfs w.2 b)).take i)
    have:((keys (bfs w.2 b)).take i).length<=(keys (bfs w.2 b)).length:=by rw[List.length_take];omega
    omega
   have l3:=Bx w.2 b
   have l4:(keys (bfs w.2 b)).length=(bfs w.2 b).length:=by simp[keys]
   have:=g.len
   rw[sizeLine_eq];omega
  refine⟨_,rfl,_,rfl,p,_,rfl,xl.k (k:=Sum.inl (v:Int)) x3.hp hlen,?_⟩
  rw[JO (G0 hv c),<-st]
  have mu:Mut (H3 p):=by rw[x3.hp];trivial
  have im0:Imm (bf w):=.tup (.cons (.int _) (.cons (.tup (iW.of λ d hd=>by obtain⟨t,_,rfl⟩:=aA.mp hd;exact .tup (.cons (.int _) (.cons (.int _) .nil)))) .nil))
  have im3:Imm (cT w.2):=.tup (iW.of λ d hd=>by obtain⟨t,_,rfl⟩:=aA.mp hd;exact .tup (.cons (.int _) (.cons (.int _) .nil)))
  exact h _ _ ⟨λ c u e n=>by rw[aV n];exact x3.but c u e n,by rw[aV (Ne.symm pf)];exact x3.hf,aU,x3.i0.text (cF.upd mu) im0,x3.i3.text (cF.upd mu) im3⟩
theorem Good.EZ (tr:w.2.length+1=w.1){D:Ends}{vt v3:V}{b:Nat}{f p:Addr}{o:Obj}{pl fo:Option V}{Hg:Hp}(hb:b<w.1)(pf:p≠f)(x:KI K w vt v3 b f p o Hg Hg 0)
  (h:∀ pl fo H',KI K w vt v3 b f p o Hg H' (bfs w.2 b).length->D.nx (sgK vt v3 b w.1 f p pl fo) H'):kL K D (sgK vt v3 b w.1 f p pl fo) Hg:=by
 refine⟨_,rfl,f,o,bL (bfs w.2 b),rfl,x.hf,GZ (λ i σ' H'=>∃ pl fo,σ'=sgK vt v3 b w.1 f p pl fo/\KI K w vt v3 b f p o Hg H' i) ⟨pl,fo,rfl,x⟩ (λ i σ' H' z=>by obtain⟨_,_,_,y⟩:=z;exact y.hf) ?_ ?_⟩
 ·rintro i q σ' H' hq ⟨pl,fo,rfl,y⟩
  have hq':(bL (bfs w.2 b))[i]?=some q:=hq
  unfold bL at hq'
  rw[List.getElem?_map]at hq'
  cases e:(bfs w.2 b)[i]? with
  | none=>rw[e]at hq';cases hq'
  | some t =>
   rw[e]at hq'
   cases hq'
   have hk:(keys (bfs w.2 b))[i]?=some t.1:=by show((bfs w.2 b).map (·.1))[i]?=_;rw[List.getElem?_map,e];rfl
   exact g.JQ tr hb hk y pf λ fo H' z=>⟨_,fo,rfl,z⟩
 ·rintro σ' H' ⟨pl,fo,rfl,y⟩
  have:(bL (bfs w.2 b)).length=(bfs w.2 b).length:=by simp[bL]
  rw[this]at y
  exact h pl fo H' y
omit g in
theorem LH {σ:L2.St}(h:σ.length=8):∃ x0 x1 x2 x3 x4 x5 x6 x7:Option V,σ=[x0,x1,x2,x3,x4,x5,x6,x7]:=by
 match σ,h with
 | [x0,x1,x2,x3,x4,x5,x6,x7],_=>exact⟨_,_,_,_,_,_,_,_,rfl⟩
theorem Good.LI (tr:w.2.length+1=w.1){D:Ends}{σ:L2.St}{b:Nat}(hb:b<w.1){H:Hp}(S:Sat K H σ [some (bf w),some (aM b),none,none,none,none,none,none])(q:∀ v H',a_ H H'->Is K H' v (.tup (((List.range w.1).map λ a=>mn w.2 b a).map .int))->D.rt v H'):kAA K D σ H:=by
 obtain⟨z1,z2⟩:=g.JP tr hb
 refine⟨_,_,S,z1,λ H1 s1 σ1 S1=>⟨_,_,S1,z2,λ H2 s2 σ2 S2=>?_⟩⟩
 obtain⟨x0,x1,x2,x3,x4,x5,x6,x7,rfl⟩:=LH S2.len
 obtain⟨v0,e0,i0⟩:=S2.at_ 0 _ rfl
 obtain⟨v1,e1,i1⟩:=S2.at_ 1 _ rfl
 obtain⟨v2,e2,i2⟩:=S2.at_ 2 _ rfl
 obtain⟨v3,e3,i3⟩:=S2.at_ 3 _ rfl
 obtain⟨v4,e4,i4⟩:=S2.at_ 4 _ rfl
 rw[i1.int_inv]at e1
 rw[i2.int_inv]at e2
 obtain⟨f,rfl,rf⟩:=i4.i8
 cases e0;cases e1;cases e2;cases e3;cases e4
 have s02:=s1.trans s2
 intro p hp
 refine⟨_,rfl,aU,[(Sum.inl (b:Int),.int 0)],rfl,by simp,?_⟩
 have hp0:upd (upd H2 p (.dK [])) p (.dK (kS [] [(Sum.inl (b:Int),V.int 0)]))=upd H2 p (.dK (kvD (mpD (mn w.2 b) (ksI w.2 b 0)))):=by
  rw[Az,EW]
  show _=upd H2 p (.dK [(Sum.inl (b:Int),V.int (mn w.2 b b))])
  rw[Bp];rfl
 rw[hp0]
 have pf:p≠f:=λ z=>by
  subst z
  rcases rf with r | ⟨o,r⟩
  ·rw[hp]at r;cases r
  ·rw[hp]at r;cases r
 have hpH:H p=none:=s02.free hp
 have s3:a_ H2 (upd H2 p (.dK (kvD (mpD (mn w.2 b) (ksI w.2 b 0))))):=a_.upd hp
 have hp3:upd H2 p (.dK (kvD (mpD (mn w.2 b) (ksI w.2 b 0)))) p=some (.dK (kvD (mpD (mn w.2 b) (ksI w.2 b 0)))):=aU
 generalize upd H2 p (.dK (kvD (mpD (mn w.2 b) (ksI w.2 b 0))))=H3 at s3 hp3
 have i03:=i0.ext s3
 have i33:=i3.ext s3
 have fin:∀ (pl fo:Option V) (H':Hp),(∀ c u,H c=some u->H' c=some u)->Sat K H' (sgK v0 v3 b w.1 f p pl fo) [some (bf w),some (aM b),some (aM w.1),some (cT w.2),some (.dct (bL (bfs w.2 b))),some (.dct (mpD (mn w.2 b) (ksI w.2 b (bfs w.2 b).length))),none,none]->tDS K kR D (sgK v0 v3 b w.1 f p pl fo) H':=λ pl fo H' sm S' =>
  ⟨_,_,S',g.LG hb ..,λ H5 s5 v iv=>q v H5 (λ c u e=>s5 c u (sm c u e)) iv⟩
 rcases rf with r | ⟨o,r⟩
 ·have rf3:=s3 _ _ r
  refine .inr ⟨f,_,rf3,λ o=>?_⟩
  have mu:Mut (H3 f):=by rw[rf3];trivial
  have im0:Imm (bf w):=.tup (.cons (.int _) (.cons (.tup (iW.of λ d hd=>by obtain⟨t,_,rfl⟩:=aA.mp hd;exact .tup (.cons (.int _) (.cons (.int _) .nil)))) .nil))
  have im3:Imm (cT w.2):=.tup (iW.of λ d hd=>by obtain⟨t,_,rfl⟩:=aA.mp hd;exact .tup (.cons (.int _) (.cons (.int _) .nil)))
  refine g.EZ tr hb pf ⟨λ c u e _=>e,aU,by rw[aV pf];exact hp3,i03.text (cF.upd mu) im0,i33.text (cF.upd mu) im3⟩ λ pl fo H' y=>⟨y.hf,?_⟩
  have sm:∀ c u,H c=some u->upd H' f (.dK (kvD (bL (bfs w.2 b)))) c=some u:=λ c u e=>by
   by_cases cf:c=f
   ·subst cf
    have:=(s02.trans s3) _ _ e
    rw[rf3]at this
    cases this
    exact aU
   ·rw[aV cf]
    exact y.but c u (by rw[aV cf];exact(s02.trans s3) _ _ e) (bw e hpH)
  refine fin pl fo _ sm ?_
  have tx:∀ {v:V} {d:Dt},Imm d->Is K H3 v d->Is K (upd H' f (.dK (kvD (bL (bfs w.2 b))))) v d:=λ im i=>i.text ⟨λ c xs e=>by
    have cf:c≠f:=λ z=>by subst z;rw[rf3]at e;cases e
    have cp:c≠p:=λ z=>by subst z;rw[hp3]at e;cases e
    rw[aV cf];exact y.but c _ (by rw[aV cf];exact e) cp,λ c o u e=>by
    have cf:c≠f:=λ z=>by subst z;rw[rf3]at e;cases e
    have cp:c≠p:=λ z=>by subst z;rw[hp3]at e;cases e
    rw[aV cf];exact y.but c _ (by rw[aV cf];exact e) cp⟩ im
  exact stS (tx im0 i03) (stS (.int _) (stS (.int _) (stS (tx im3 i33) (stS (.dct (.inl aU)) (stS (.dct (.inl (by rw[aV pf];exact y.hp))) (stN (stN stE)))))))
 ·have rf3:=s3 _ _ r
  refine .inl (g.EZ tr hb pf ⟨λ c u e _=>e,rf3,hp3,i03,i33⟩ λ pl fo H' y=>fin pl fo H' (λ c u e=>y.but c u ((s02.trans s3) _ _ e) (bw e hpH)) (y.sat' pl fo))
end
noncomputable def gvD (kvs:List (Int×Int))(i:Nat):Option Int:=eu kvs (i:Int)
noncomputable def adD (as:List Int)(i:Nat):Int:=as.getD i 0
noncomputable def bU (a:Nat->Nat->Int)(n i:Nat):Dt:=.lst ((List.range (n+1)).map λ j=>.int (a i j))
noncomputable def kd:List Dt->Option Dt
 | [x,y,.dct kvs,.lst es]=>(dW x).bind λ w=>(cw y).bind λ p=>(d9 es).bind λ as=>if p<w.1/\as.length=w.1 then some (bU (eqA w (gvD kvs) (adD as)) w.1 p) else none
 | _=>none
noncomputable def u1:DE->Option RD:=qx (fJ 4 5) (aN 0)
noncomputable def uN:DE->Option Dt:=aT 2 eO (aK (aN 5) (aK (aN 1) aP))
noncomputable def uM:DE->Option Dt:=gUn pJ (gC (.int 1))
noncomputable def uL:DE->Option Dt:=bK iI (aK (aN 7) aP)
noncomputable def uG:DE->Option RD:=cu (bg xP (aN 6) (xH (aK (bg qC (aN 2) (aN 1)) aP)))
noncomputable def uA:DE->Option RD:=cu (bg xP (aN 6) (xH (aK (bg dIx (aN 3) (aN 1)) aP)))
noncomputable def eB (K:PySem.W.Frag):TS:=gG (tD K uM) (FN (bF 6) (bF 8) AM)
noncomputable def eF (K:PySem.W.Frag):TS:=xc (iDT K (gI nE (aN 7))) (bT 8) (eB K)
noncomputable def eI (K:PySem.W.Frag):TS:=C_ (tB (KQ (bF 1) (bF 2))) (dP (gG (tC (V.int 1)) (FN (bF 6) (bF 1) AM)) (tDS K uG)) xa
noncomputable def eR (K:PySem.W.Frag):TS:=dP (gG (tD K uN) (bT 7)) (dP (eF K) (dP (gG (tD K uL) (FN (bF 6) (bF 1) AM)) (tDS K uA)))
noncomputable def LJ (K:PySem.W.Frag):TS:=dP (tDS K u1) (dP (gG (tOp KN (zl (bp (tC (V.int 0)) cK)) (bF 4)) (bT 6)) (dP (eI K) (eR K)))
noncomputable abbrev sgE (v0:V)(pl:Nat)(v2 v3:V)(n:Nat)(v5:V)(p:Addr)(nr ot:Option V):L2.St:=[some v0,some (cV pl),some v2,some v3,some (cV n),some v5,some (.ref p),nr,ot]
noncomputable abbrev rwV (n:Nat)(f:Nat->Int):List V:=(List.range n).map λ j=>V.int (f j)
theorem G2 (n:Nat)(f:Nat->Int)(j:Nat)(x:Int):(rwV n f).set j (V.int x)=rwV n (λ i=>if i=j then x else f i):=by
 apply List.ext_getElem?
 intro i
 rw[List.getElem?_set]
 simp only[rwV,List.getElem?_map,ah,List.length_range]
 by_cases c:j=i
 ·subst c
  by_cases l:j<n
  ·rw[ae rfl,ae l,List.getElem?_range l];simp
  ·rw[ae rfl,af l,List.getElem?_eq_none (by simp;omega)];rfl
 ·rw[af c]
  by_cases l:i<n
  ·rw[List.getElem?_range l];simp[Ne.symm c]
  ·rw[List.getElem?_eq_none (by simp;omega)];rfl
theorem wc {n j:Nat}(h:j<n):ixN n (j:Int)=some j:=by
 unfold ixN
 rw[ae (by omega),ae (by omega)];simp
structure EH (K:PySem.W.Frag)(w:Web)(kvs:List (Int×Int))(as:List Int)(v0 v2 v3 v5:V)(H0:Hp)(p:Addr)(f:Nat->Int)(H:Hp):Prop where
 same:a_ H0 H
 np:H0 p=none
 hp:H p=some (.lst (rwV w.1 f))
 i0:Is K H0 v0 (bf w)
 i2:Is K H0 v2 (.dct kvs)
 i3:Is K H0 v3 (.lst (as.map .int))
 i5:Is K H0 v5 (cT w.2)
section
variable {K:PySem.W.Frag}{w:Web}{kvs:List (Int×Int)}{as:List Int}{v0 v2 v3 v5:V}{H0 H:Hp}{p:Addr}{f:Nat->Int}{pl:Nat}{D:Ends}
theorem EH.ext {H':Hp}(x:EH K w kvs as v0 v2 v3 v5 H0 p f H)(s:a_ H H'):EH K w kvs as v0 v2 v3 v5 H0 p f H':=⟨x.same.trans s,x.np,s _ _ x.hp,x.i0,x.i2,x.i3,x.i5⟩
theorem EH.put (x:EH K w kvs as v0 v2 v3 v5 H0 p f H)(j:Nat)(z:Int):EH K w kvs as v0 v2 v3 v5 H0 p (λ i=>if i=j then z else f i) (upd H p (.lst ((rwV w.1 f).set j (.int z)))) :=
 ⟨λ c u h=>by rw[aV (bw h x.np)];exact x.same c u h,x.np,by rw[aU,G2],x.i0,x.i2,x.i3,x.i5⟩
theorem EH.text (x:EH K w kvs as v0 v2 v3 v5 H0 p f H){u:HO}:cF H (upd H p u):=cF.upd (by rw[x.hp];trivial)
theorem EH.HU (x:EH K w kvs as v0 v2 v3 v5 H0 p f H):Is K H (.ref p) (.lst ((List.range w.1).map λ j=>.int (f j))):=by
 refine .lst x.hp ?_
 have:=Iss.vA (K:=K) (H:=H) ((List.range w.1).map f)
 rw[List.map_map,List.map_map]at this
 exact this
theorem EH.sat (x:EH K w kvs as v0 v2 v3 v5 H0 p f H)(nr ot:Option V):Sat K H (sgE v0 pl v2 v3 w.1 v5 p nr ot) [some (bf w),some (aM pl),some (.dct kvs),some (.lst (as.map .int)),some (aM w.1),some (cT w.2),some (.lst ((List.range w.1).map λ j=>.int (f j))),none,none] :=
 stS (x.i0.ext x.same) (stS (.int _) (stS (x.i2.ext x.same) (stS (x.i3.ext x.same) (stS (.int _) (stS (x.i5.ext x.same) (stS x.HU (stN (stN stE))))))))
theorem EH.LK {nr:V}{d7:Dt}(x:EH K w kvs as v0 v2 v3 v5 H0 p f H)(i7:Is K H nr d7)(ot:Option V):Sat K H (sgE v0 pl v2 v3 w.1 v5 p (some nr) ot) [some (bf w),some (aM pl),some (.dct kvs),some (.lst (as.map .int)),some (aM w.1),some (cT w.2),some (.lst ((List.range w.1).map λ j=>.int (f j))),some d7,none] :=
 stS (x.i0.ext x.same) (stS (.int _) (stS (x.i2.ext x.same) (stS (x.i3.ext x.same) (stS (.int _) (stS (x.i5.ext x.same) (stS x.HU (stS i7 (stN stE))))))))
theorem BA (n:Nat)(f:Nat->Int)(z:Int):((List.range n).map λ j=>Dt.int (f j))++[.int z]=(List.range (n+1)).map λ j=>.int (if j=n then z else f j):=by
 rw[List.range_succ,List.map_append]
 congr 1
 ·exact aE λ j hj=>by rw[af (by have:=ay.mp hj;omega)]
 ·simp
theorem LL (x0 x3 x4 x5 x7 x8:Option Dt){v:Int}(h:eu kvs (pl:Int)=some v)(h8:w.1<=8):uG [x0,some (aM pl),some (.dct kvs),x3,x4,x5,some (.lst ((List.range w.1).map λ j=>.int (f j))),x7,x8]=some (.rt (.lst ((List.range (w.1+1)).map λ j=>.int (if j=w.1 then v else f j)))):=by
 have e1:qC (.dct kvs) (aM pl)=some (.int v):=by show(eu kvs (pl:Int)).map Dt.int=_;rw[h];rfl
 have e2:xP (.lst ((List.range w.1).map λ j=>.int (f j))) (.lst [.int v])=some (.lst ((List.range (w.1+1)).map λ j=>.int (if j=w.1 then v else f j))):=by
  show(if ((List.range w.1).map λ j=>Dt.int (f j)).length+[Dt.int v].length<=1000 then some (Dt.lst (((List.range w.1).map λ j=>Dt.int (f j))++[.int v])) else none)=_
  rw[ae (by simp;omega),BA]
 generalize (List.range (w.1+1)).map (λ j=>Dt.int (if j=w.1 then v else f j))=r at *
 generalize (List.range w.1).map (λ j=>Dt.int (f j))=q at *
 generalize aM pl=np at *
 simp[uG,e1,e2]
theorem LM (x0 x2 x4 x5 x7 x8:Option Dt)(hl:pl<as.length)(h8:w.1<=8):uA [x0,some (aM pl),x2,some (.lst (as.map .int)),x4,x5,some (.lst ((List.range w.1).map λ j=>.int (f j))),x7,x8]=some (.rt (.lst ((List.range (w.1+1)).map λ j=>.int (if j=w.1 then adD as pl else f j)))):=by
 have e1:dIx (.lst (as.map .int)) (aM pl)=some (.int (adD as pl)):=by
  show atI (as.map Dt.int) (pl:Int)=_
  refine iY ?_
  rw[List.getElem?_map,aF hl]
  unfold adD
  rw[aD,aF hl];rfl
 have e2:xP (.lst ((List.range w.1).map λ j=>.int (f j))) (.lst [.int (adD as pl)])=some (.lst ((List.range (w.1+1)).map λ j=>.int (if j=w.1 then adD as pl else f j))):=by
  show(if ((List.range w.1).map λ j=>Dt.int (f j)).length+[Dt.int (adD as pl)].length<=1000 then some (Dt.lst (((List.range w.1).map λ j=>Dt.int (f j))++[.int (adD as pl)])) else none)=_
  rw[ae (by simp;omega),BA]
 generalize (List.range (w.1+1)).map (λ j=>Dt.int (if j=w.1 then adD as pl else f j))=r at *
 generalize (List.range w.1).map (λ j=>Dt.int (f j))=q at *
 generalize aM pl=np at *
 generalize as.map Dt.int=am at *
 simp[uA,e1,e2]
theorem LN (hl:w.2.length<=30)(x0 x2 x3 x4 x6 x7 x8:Option Dt):uN [x0,some (aM pl),x2,x3,x4,some (cT w.2),x6,x7,x8]=some (.tup ((nb w.2 pl).map aM)):=by
 have tk:=sO (lU w.2) hl pl
 generalize (nb w.2 pl).map aM=ps at *
 generalize cT w.2=tt at *
 generalize aM pl=np at *
 simp[uN,tk]
theorem JR {nr:V}{ot:Nat}(x:EH K w kvs as v0 v2 v3 v5 H0 p f H)(ho:ot<w.1)(h:∀ H',EH K w kvs as v0 v2 v3 v5 H0 p (λ i=>if i=ot then -1 else f i) H'->cF H H'->D.nx (sgE v0 pl v2 v3 w.1 v5 p (some nr) (some (cV ot))) H'):eB K D (sgE v0 pl v2 v3 w.1 v5 p (some nr) (some (cV ot))) H:=by
 refine⟨_,_,x.sat _ _,show uM _=some (.int (-1)) from rfl,λ v H1 s1 i1=>?_⟩
 rw[i1.int_inv]
 have x1:=x.ext s1
 exact⟨_,rfl,_,rfl,p,_,_,ot,rfl,rfl,x1.hp,by rw[ah,List.length_range];exact wc ho,h _ (x1.put ot (-1)) (s1.text.trans x1.text)⟩
theorem JS {nr:V}{ot:Option V}{ns:List Nat}(x:EH K w kvs as v0 v2 v3 v5 H0 p f H)(i7:Is K H nr (.tup (ns.map aM)))(hn:∀ j∈ns,j<w.1)
  (h:∀ ot H',EH K w kvs as v0 v2 v3 v5 H0 p (λ i=>if i∈ns then -1 else f i) H'->cF H H'->D.nx (sgE v0 pl v2 v3 w.1 v5 p (some nr) ot) H'):eF K D (sgE v0 pl v2 v3 w.1 v5 p (some nr) ot) H:=by
 refine⟨_,ns.map aM,x.LK i7 ot,?_,iW.of (λ d hd=>by obtain⟨t,_,rfl⟩:=aA.mp hd;exact .int _),λ J H5 s5 ok=>?_⟩
 ·generalize ns.map aM=zs
  simp[nE]
 ·have x5:=x.ext s5
  refine yo ok (λ j σ' H'=>∃ (ot:Option V),σ'=sgE v0 pl v2 v3 w.1 v5 p (some nr) ot/\EH K w kvs as v0 v2 v3 v5 H0 p (λ i=>if i∈ns.take j then -1 else f i) H'/\cF H5 H')
   ⟨ot,rfl,?_,cF.refl⟩ (λ j σ' H' _ z=>by obtain⟨_,_,_,t⟩:=z;exact t) ?_ ?_
  ·have:(λ i=>if i∈ns.take 0 then -1 else f i)=f:=by funext i;simp
   rw[this];exact x5
  ·rintro j dd xv σ' H6 hj ixv ⟨ot,rfl,d6,t6⟩
   rw[List.getElem?_map]at hj
   cases hnr:ns[j]? with
   | none=>rw[hnr]at hj;cases hj
   | some near =>
    rw[hnr]at hj
    cases hj
    have hx:=ixv.int_inv
    subst hx
    refine JR d6 (hn near (List.mem_of_getElem? hnr)) λ H7 d7 t7=>⟨_,rfl,?_,t6.trans t7⟩
    have:(λ i=>if i∈ns.take (j+1) then (-1:Int) else f i)=λ i=>if i=near then -1 else if i∈ns.take j then -1 else f i:=by
     funext i
     rw[List.take_succ,hnr]
     by_cases c:i=near
     ·simp[c]
     ·by_cases c2:i∈ns.take j
      ·simp[c,c2]
      ·simp[c,c2]
    rw[this];exact d7
  ·rintro σ' H6 ⟨ot,rfl,d6,t6⟩
   rw[ah,List.take_length]at d6
   exact h _ _ d6 (s5.text.trans t6)
end
theorem Nm {σ:L2.St}(h:σ.length=9):∃ x0 x1 x2 x3 x4 x5 x6 x7 x8:Option V,σ=[x0,x1,x2,x3,x4,x5,x6,x7,x8]:=by
 match σ,h with
 | [x0,x1,x2,x3,x4,x5,x6,x7,x8],_=>exact⟨_,_,_,_,_,_,_,_,_,rfl⟩
section
variable {K:PySem.W.Frag}{w:Web}{kvs:List (Int×Int)}{as:List Int}{v0 v2 v3 v5:V}{H0 H:Hp}{p:Addr}{pl:Nat}{D:Ends}
theorem JT {v:Int}(h:eu kvs (pl:Int)=some v):Dt.lst ((List.range (w.1+1)).map λ j=>.int (if j=w.1 then v else if j=pl then 1 else 0))=bU (eqA w (gvD kvs) (adD as)) w.1 pl:=by
 unfold bU
 congr 1
 refine aE λ j _=>?_
 unfold eqA
 have:gvD kvs pl=some v:=h
 rw[this]
theorem JU (h:eu kvs (pl:Int)=none):Dt.lst ((List.range (w.1+1)).map λ j=>.int (if j=w.1 then adD as pl else if j=pl then ((nb w.2 pl).length:Int) else if j∈nb w.2 pl then -1 else 0))=bU (eqA w (gvD kvs) (adD as)) w.1 pl:=by
 unfold bU
 congr 1
 refine aE λ j _=>?_
 unfold eqA
 have:gvD kvs pl=none:=h
 rw[this];rfl
theorem Good.JV (g:Good w)(hpl:pl<w.1)(hl:as.length=w.1)(hk:eu kvs (pl:Int)=none){x7 x8:Option V}(x:EH K w kvs as v0 v2 v3 v5 H0 p (λ _=>0) H)
  (q:∀ v H',a_ H0 H'->Is K H' v (bU (eqA w (gvD kvs) (adD as)) w.1 pl)->D.rt v H'):eR K D (sgE v0 pl v2 v3 w.1 v5 p x7 x8) H:=by
 refine⟨_,_,x.sat x7 x8,LN (by have:=g.len;omega) ..,λ nr H1 s1 i1=>?_⟩
 have x1:=x.ext s1
 refine JS x1 i1 (λ j hj=>(g.cq hj).1) λ ot H2 x2 t2=>?_
 have i2:Is K H2 nr (.tup ((nb w.2 pl).map aM)):=i1.text t2 (.tup (iW.of λ d hd=>by obtain⟨t,_,rfl⟩:=aA.mp hd;exact .int _))
 have ul:uL [some (bf w),some (aM pl),some (.dct kvs),some (.lst (as.map .int)),some (aM w.1),some (cT w.2),some (.lst ((List.range w.1).map λ j=>.int (if j∈nb w.2 pl then -1 else 0))),some (.tup ((nb w.2 pl).map aM)),none]=some (.int ((nb w.2 pl).length:Int)):=by
  have:(((nb w.2 pl).map aM).length:Int)=((nb w.2 pl).length:Int):=by rw[ah]
  rw[<-this]
  generalize (nb w.2 pl).map aM=ps
  simp[uL]
 refine⟨_,_,x2.LK i2 ot,ul,λ v H3 s3 i3=>?_⟩
 rw[i3.int_inv]
 have x3:=x2.ext s3
 refine⟨_,rfl,_,rfl,p,_,_,pl,rfl,rfl,x3.hp,by rw[ah,List.length_range];exact wc hpl,?_⟩
 have x4:=x3.put pl ((nb w.2 pl).length:Int)
 refine⟨_,_,x4.sat _ _,LM _ _ _ _ _ _ (Nat.lt_of_lt_of_eq hpl hl.symm) g.da,λ H5 s5 v iv=>?_⟩
 ·exact q v H5 (x4.same.trans s5) (by rw[JU hk]at iv;exact iv)
theorem Good.HN (g:Good w)(hpl:pl<w.1)(hl:as.length=w.1){σ:L2.St}(S:Sat K H σ [some (bf w),some (aM pl),some (.dct kvs),some (.lst (as.map .int)),none,none,none,none,none])
  (q:∀ v H',a_ H H'->Is K H' v (bU (eqA w (gvD kvs) (adD as)) w.1 pl)->D.rt v H'):LJ K D σ H:=by
 have h8:=g.da
 refine⟨_,_,S,show u1 _=some (.nx [some (bf w),some (aM pl),some (.dct kvs),some (.lst (as.map .int)),some (aM w.1),some (cT w.2),none,none,none]) from rfl,λ H1 s1 σ1 S1=>?_⟩
 obtain⟨x0,x1,x2,x3,x4,x5,x6,x7,x8,rfl⟩:=Nm S1.len
 obtain⟨v0,e0,i0⟩:=S1.at_ 0 _ rfl
 obtain⟨v1,e1,i1⟩:=S1.at_ 1 _ rfl
 obtain⟨v2,e2,i2⟩:=S1.at_ 2 _ rfl
 obtain⟨v3,e3,i3⟩:=S1.at_ 3 _ rfl
 obtain⟨v4,e4,i4⟩:=S1.at_ 4 _ rfl
 obtain⟨v5,e5,i5⟩:=S1.at_ 5 _ rfl
 rw[i1.int_inv]at e1
 rw[i4.int_inv]at e4
 cases e0;cases e1;cases e2;cases e3;cases e4;cases e5
 refine⟨Nat.le_of_ble_eq_true rfl,λ l hlf=>⟨_,rfl,?_⟩⟩
 refine⟨l,(w.1:Int),[V.int 0],rfl,rfl,aU,by omega,by omega,by rw[sizeLine_eq];simp;omega,λ p hp=>?_⟩
 have s2:a_ H1 (upd H1 l (.lst [V.int 0])):=a_.upd hlf
 have s3:a_ (upd H1 l (.lst [V.int 0])) (upd (upd H1 l (.lst [V.int 0])) p (.lst (List.replicate (w.1:Int).toNat [V.int 0]).flatten)):=a_.upd hp
 have er:(List.replicate (w.1:Int).toNat [V.int 0]).flatten=rwV w.1 (λ _=>0):=by
  rw[Int.toNat_natCast]
  show _=(List.range w.1).map λ _=>V.int 0
  clear hpl hl h8 s3 hp q S S1 i0 i5 g
  generalize w.1=n
  induction n with
  | zero=>rfl
  | succ n ih=>rw[List.replicate_succ',List.flatten_append,ih,List.range_succ,List.map_append];rfl
 rw[er]at s3 ⊢
 generalize upd H1 l (.lst [V.int 0])=H2 at *
 have x:EH K w kvs as v0 v2 v3 v5 H2 p (λ _=>0) (upd H2 p (.lst (rwV w.1 (λ _=>0)))):=⟨s3,hp,aU,i0.ext s2,i2.ext s2,i3.ext s2,i5.ext s2⟩
 have s12:=s1.trans s2
 generalize upd H2 p (.lst (rwV w.1 (λ _=>0)))=H3 at x
 show eI K _ (sgE v0 pl v2 v3 w.1 v5 p x7 x8) H3
 obtain⟨d,rfl,rd⟩:=(x.i2.ext x.same).i8
 have dg:ml H3 d (cV pl) ((eu kvs (pl:Int)).map V.int):=by
  have:=n_ kvs (pl:Int)
  rw[<-this]
  exact .inl ⟨kvD kvs,Sum.inl (pl:Int),rd,rfl,rfl⟩
 refine⟨_,rfl,_,rfl,d,_,rfl,dg,_,rfl,?_⟩
 cases hk:eu kvs (pl:Int) with
 | none=>exact IW (g.JV hpl hl hk x λ v H' s i=>q v H' (s12.trans s) i)
 | some v =>
  refine DG ?_
  refine⟨_,rfl,_,rfl,p,_,_,pl,rfl,rfl,x.hp,by rw[ah,List.length_range];exact wc hpl,?_⟩
  have x4:=x.put pl 1
  exact⟨_,_,x4.sat _ _,LL _ _ _ _ _ _ hk h8,λ H5 s5 u iu=>q u H5 ((s12.trans x4.same).trans s5) (by rw[JT (as:=as) hk]at iu;exact iu)⟩
end
noncomputable def zc (r l:List Int)(k:Nat)(fo:Int):List Int:=(r.zip l).map λ q=>(l.getD k 0*q.1-r.getD k 0*q.2) / fo
noncomputable def ie:List Dt->Option Dt
 | [.lst rs,.lst ls,.int k,.int fo]=>(d9 rs).bind λ r=>(d9 ls).bind λ l=>if 0<=k/\k.toNat<r.length/\k.toNat<l.length/\r.length<=1000/\(0<fo/\bd fo)/\(∀ x∈r,bd x)/\(∀ x∈l,bd x) then some (.lst ((zc r l k.toNat fo).map .int)) else none
 | _=>none
noncomputable def pM:DE->Option RD:=(cu (gLC ["one","other"] [3,1,2,0] (Gw false false (aK (aN 0) (aK (aN 1) aP))) (fJ 0 1) dB (bg Cf (bg (dI (·-·)) (bg ju (bg dIx (aN 3) (aN 4)) (aN 0)) (bg ju (bg dIx (aN 5) (aN 4)) (aN 1))) (aN 2))))
noncomputable abbrev CH:List Str:=["row","lead","at","former"]
theorem Ad {l:List Int}{k:Nat}(h:k<l.length):dIx (.lst (l.map .int)) (.int (k:Int))=some (.int (l.getD k 0)):=by
 show atI (l.map Dt.int) (k:Int)=_
 refine iY ?_
 rw[List.getElem?_map,aF h,aD,aF h];rfl
theorem getD_mem {l:List Int}{k:Nat}(h:k<l.length):l.getD k 0∈l:=by
 rw[aD,aF h];exact List.getElem_mem h
theorem Ae:Hg 4 CH ie pM:=by
 intro ds d hl h
 match ds,h with
 | [.lst rs,.lst ls,.int k,.int fo],h =>
  obtain⟨r,e1,h1⟩:=aQ (show(d9 rs).bind _=_ from h)
  obtain⟨l,e2,h2⟩:=aQ h1
  have e1:=fA e1
  have e2:=fA e2
  clear h h1
  subst e1 e2
  by_cases hc:0<=k/\k.toNat<r.length/\k.toNat<l.length/\r.length<=1000/\(0<fo/\bd fo)/\(∀ x∈r,bd x)/\(∀ x∈l,bd x)
  ·rw[ae hc]at h2
   cases h2
   obtain⟨c0,c1,c2,c3,c4,c5,c6⟩:=hc
   obtain⟨m,rfl⟩:∃ m:Nat,k=(m:Int):=⟨k.toNat,by omega⟩
   rw[Int.toNat_natCast]at *
   have i1:=Ad c1
   have i2:=Ad c2
   have zp:D6 false false [.lst (r.map .int),.lst (l.map .int)]=some ((r.zip l).map λ q=>.tup [.int q.1,.int q.2]):=by
    show some (((r.map Dt.int).zip (l.map Dt.int)).map λ(p,q)=>Dt.tup [p,q])=_
    rw[List.zip_map,List.map_map];rfl
   have lc:=cP (enc:=λ q:Int×Int=>Dt.tup [.int q.1,.int q.2]) (gg:=fJ 0 1) (ge:=bg Cf (bg (dI (·-·)) (bg ju (bg dIx (aN 3) (aN 4)) (aN 0)) (bg ju (bg dIx (aN 5) (aN 4)) (aN 1))) (aN 2)) (δc:=[none,none,some (.int fo),some (.lst (l.map .int)),some (.int (m:Int)),some (.lst (r.map .int))])
    (δa:=λ q=>[some (.int q.1),some (.int q.2),some (.int fo),some (.lst (l.map .int)),some (.int (m:Int)),some (.lst (r.map .int))]) (enc':=λ q=>.int ((l.getD m 0*q.1-r.getD m 0*q.2) / fo)) (r.zip l) λ q hq=>⟨rfl,by
     have q1:bd q.1:=c5 _ (List.of_mem_zip hq).1
     have q2:bd q.2:=c6 _ (List.of_mem_zip hq).2
     have m1:ju (.int (l.getD m 0)) (.int q.1)=some (.int (l.getD m 0*q.1)):=by show(if bd _/\bd _ then _ else _)=_;rw[ae ⟨c6 _ (getD_mem c2),q1⟩]
     have m2:ju (.int (r.getD m 0)) (.int q.2)=some (.int (r.getD m 0*q.2)):=by show(if bd _/\bd _ then _ else _)=_;rw[ae ⟨c5 _ (getD_mem c1),q2⟩]
     have d1:Cf (.int (l.getD m 0*q.1-r.getD m 0*q.2)) (.int fo)=some (.int ((l.getD m 0*q.1-r.getD m 0*q.2) / fo)):=by show(if _ then _ else _)=_;rw[ae c4]
     generalize l.map Dt.int=lm at *
     generalize r.map Dt.int=rm at *
     generalize l.getD m 0=lk at *
     generalize r.getD m 0=rk at *
     simp[i1,i2,m1,m2,d1]⟩
   have hn:((r.zip l).map λ q=>Dt.tup [.int q.1,.int q.2]).length<=1000:=by rw[ah,List.length_zip];omega
   have er:(zc r l m fo).map Dt.int=(r.zip l).map λ q=>.int ((l.getD m 0*q.1-r.getD m 0*q.2) / fo):=by unfold zc;rw[List.map_map];rfl
   refine⟨.rt (.lst ((zc r l m fo).map .int)),?_,rfl⟩
   rw[er]
   generalize (r.zip l).map (λ q=>Dt.int ((l.getD m 0*q.1-r.getD m 0*q.2) / fo))=res at *
   generalize (r.zip l).map (λ q=>Dt.tup [.int q.1,.int q.2])=zz at *
   generalize l.map Dt.int=lm at *
   generalize r.map Dt.int=rm at *
   simp[pM,zp,lc,hn]
  ·rw[af hc]at h2;cases h2
open Dt0 (Tz fm)
noncomputable def rwI (a:Nat->Nat->Int)(n i:Nat):List Int:=(List.range (n+1)).map (a i)
theorem oh (a:Nat->Nat->Int)(n i:Nat):bU a n i=.lst ((rwI a n i).map .int):=by unfold bU rwI;rw[List.map_map];rfl
theorem Af {a:Nat->Nat->Int}{n i k:Nat}(h:k<=n):(rwI a n i).getD k 0=a i k:=by
 unfold rwI
 rw[aD,List.getElem?_map,List.getElem?_range (by omega)];rfl
theorem qU (a:Nat->Nat->Int)(n i:Nat):(rwI a n i).length=n+1:=by simp[rwI]
noncomputable def kf (a:Nat->Nat->Int)(n k:Nat):Dt:=.lst ((List.range n).map λ i=>bU (Tz a k) n i)
structure gP (a:Nat->Nat->Int)(n:Nat):Prop where
 da:n<=8
 lead:∀ k,k<=n->0<fm a k/\bd (fm a k)
 ent:∀ k i j,k<=n->i<n->j<=n->bd (Tz a k i j)
noncomputable def aOf (rs:List Dt)(i j:Nat):Int:=match rs[i]? with
 | some (.lst es)=>(match es[j]? with | some (.int z)=>z | _=>0)
 | _=>0
open Classical in
noncomputable def jM:List Dt->Option Dt
 | [.lst rs]=>if rs=(List.range rs.length).map (bU (aOf rs) rs.length)/\gP (aOf rs) rs.length then some (.tup ((List.range rs.length).map λ i=>aS (Rat.divInt (Tz (aOf rs) rs.length i rs.length) (fm (aOf rs) rs.length)))) else none
 | _=>none
noncomputable def CI:DE->Option RD:=(bP (dR 4 (bg dIx (aN 1) (aN 3))) (bP (dR 1 (gLC ["k","row"] [3,4,2] (qj false (aK (aN 1) aP)) (fJ 0 1) dB (gIf (gB (bg gY (aN 0) (aN 2))) (aN 1) (aT 4 ie (aK (aN 1) (aK (aN 3) (aK (aN 2) (aK (aN 4) aP)))))))) (dR 2 (bg dIx (aN 4) (aN 3)))))
noncomputable def G3:DE->Option RD:=(cu (bK jv (aK (gLC ["row"] [2] (gI d_ (aN 1)) (ggN 0) dB (aT 2 cn (aK (bg dIx (aN 0) (gUn pJ (gC (.int 1)))) (aK (aN 1) aP)))) aP)))
noncomputable def tE:DE->Option RD:=(bP (dR 1 (bK qT (aK (aN 0) aP))) (bP (dR 2 (gC (.int 1))) (bP (xJ (lu (aK (bK iI (aK (aN 0) aP)) aP)) (ggN 3) (bP (dR 4 (bg dIx (aN 1) (aN 3))) (bP (dR 1 (gLC ["k","row"] [3,4,2] (qj false (aK (aN 1) aP)) (fJ 0 1) dB (gIf (gB (bg gY (aN 0) (aN 2))) (aN 1) (aT 4 ie (aK (aN 1) (aK (aN 3) (aK (aN 2) (aK (aN 4) aP)))))))) (dR 2 (bg dIx (aN 4) (aN 3)))))) (cu (bK jv (aK (gLC ["row"] [2] (gI d_ (aN 1)) (ggN 0) dB (aT 2 cn (aK (bg dIx (aN 0) (gUn pJ (gC (.int 1)))) (aK (aN 1) aP)))) aP))))))
noncomputable abbrev E1:List Str:=["rows","table","former","at","lead"]
theorem yK:tE=bP (dR 1 (bK qT (aK (aN 0) aP))) (bP (dR 2 (gC (.int 1))) (bP (xJ (lu (aK (bK iI (aK (aN 0) aP)) aP)) (ggN 3) CI) G3)):=rfl
section
variable {a:Nat->Nat->Int}{n:Nat}
theorem gP.cl (o:gP a n){k i:Nat}(hk:k<n)(hi:i<n)(ne:i≠k):ie [bU (Tz a k) n i,bU (Tz a k) n k,aM k,.int (fm a k)]=some (bU (Tz a (k+1)) n i):=by
 have h8:=o.da
 rw[oh,oh,oh]
 show(d9 ((rwI (Tz a k) n i).map .int)).bind (λ r=>(d9 ((rwI (Tz a k) n k).map .int)).bind λ l=>if 0<=(k:Int)/\(k:Int).toNat<r.length/\(k:Int).toNat<l.length/\r.length<=1000/\(0<fm a k/\bd (fm a k))/\(∀ x∈r,bd x)/\(∀ x∈l,bd x) then some (Dt.lst ((zc r l (k:Int).toNat (fm a k)).map .int)) else none)=_
 have bdr:∀ i,i<n->∀ x∈rwI (Tz a k) n i,bd x:=λ i hi x hx=>by
  obtain⟨j,hj,rfl⟩:=aA.mp hx
  exact o.ent k i j (by omega) hi (by have:=ay.mp hj;omega)
 rw[jK,jK,aa,aa,Int.toNat_natCast,ae ⟨by omega,by rw[qU];omega,by rw[qU];omega,by rw[qU];omega,o.lead k (by omega),bdr i hi,bdr k hk⟩]
 congr 3
 unfold zc
 rw[Af (by omega),Af (by omega)]
 unfold rwI
 rw[List.zip_map',List.map_map]
 refine aE λ j _=>?_
 show(Tz a k k k*Tz a k i j-Tz a k i k*Tz a k k j) / fm a k=if i=k then _ else _
 rw[af ne]
theorem JW {k i:Nat}(h:i<n):dIx (kf a n k) (aM i)=some (bU (Tz a k) n i):=by
 show atI ((List.range n).map λ i=>bU (Tz a k) n i) (i:Int)=_
 refine iY ?_
 rw[List.getElem?_map,List.getElem?_range h];rfl
theorem JX {k i j:Nat}(h:j<=n):dIx (bU (Tz a k) n i) (aM j)=some (.int (Tz a k i j)):=by
 rw[oh]
 have:=Ad (l:=rwI (Tz a k) n i) (k:=j) (by rw[qU];omega)
 rw[Af h]at this
 exact this
theorem E2 (k i:Nat):dIx (bU (Tz a k) n i) (.int (-1))=some (.int (Tz a k i n)):=by
 show atI ((List.range (n+1)).map λ j=>Dt.int (Tz a k i j)) (-1)=_
 rw[List.range_succ,List.map_append]
 exact Du _ _
theorem gP.turn (o:gP a n){k:Nat}(hk:k<n)(x4:Option Dt)(x0:Dt):CI [some x0,some (kf a n k),some (.int (fm a k)),some (aM k),x4]=some (.nx [some x0,some (kf a n (k+1)),some (.int (fm a (k+1))),some (aM k),some (bU (Tz a k) n k)]):=by
 have h8:=o.da
 have t1:=JW (a:=a) (k:=k) hk
 have r1:=JX (a:=a) (n:=n) (k:=k) (i:=k) (j:=k) (by omega)
 have en:=mU false (x:=kf a n k) (λ i=>bU (Tz a k) n i) n rfl
 have lc:=cP (enc:=λ i=>Dt.tup [aM i,bU (Tz a k) n i]) (gg:=fJ 0 1) (ge:=gIf (gB (bg gY (aN 0) (aN 2))) (aN 1) (aT 4 ie (aK (aN 1) (aK (aN 3) (aK (aN 2) (aK (aN 4) aP)))))) (δc:=[none,none,some (aM k),some (bU (Tz a k) n k),some (.int (fm a k))])
  (δa:=λ i=>[some (aM i),some (bU (Tz a k) n i),some (aM k),some (bU (Tz a k) n k),some (.int (fm a k))]) (enc':=λ i=>bU (Tz a (k+1)) n i) (List.range n) λ i hi=>⟨rfl,by
   have hi:=ay.mp hi
   have e:gY (aM i) (aM k)=some (.bl (i==k)):=by show some (Dt.bl ((i:Int)==(k:Int)))=_;rw[iM]
   by_cases c:i=k
   ·have rr:bU (Tz a k) n i=bU (Tz a (k+1)) n i:=by
     unfold bU
     congr 1
     refine aE λ j _=>?_
     show Dt.int (Tz a k i j)=.int (if i=k then Tz a k i j else _)
     rw[ae c]
    rw[<-rr]
    generalize bU (Tz a k) n i=ri at *
    generalize bU (Tz a k) n k=rk at *
    have ck:(i==k)=true:=by simpa using c
    rw[ck]at e
    generalize aM i=ni at *
    generalize aM k=nk at *
    simp[e]
   ·have cl:=o.cl hk hi c
    generalize bU (Tz a (k+1)) n i=rr at *
    generalize bU (Tz a k) n i=ri at *
    generalize bU (Tz a k) n k=rk at *
    have ck:(i==k)=false:=by simpa using c
    rw[ck]at e
    generalize aM i=ni at *
    generalize aM k=nk at *
    simp[e,cl]⟩
 have hn:((List.range n).map λ i=>Dt.tup [aM i,bU (Tz a k) n i]).length<=1000:=by simp;omega
 have ef:fm a (k+1)=Tz a k k k:=rfl
 rw[ef]
 show _=some (RD.nx [some x0,some (.lst ((List.range n).map λ i=>bU (Tz a (k+1)) n i)),_,_,_])
 generalize (List.range n).map (λ i=>bU (Tz a (k+1)) n i)=res at *
 generalize (List.range n).map (λ i=>Dt.tup [aM i,bU (Tz a k) n i])=zz at *
 generalize kf a n k=tk at *
 generalize bU (Tz a k) n k=rk at *
 generalize aM k=nk at *
 simp[CI,t1,en,lc,hn,r1]
theorem gP.loop (o:gP a n)(x0:Dt):∀ (m k:Nat) (x3 x4:Option Dt),k+m=n->∃ y3 y4,mC (ggN 3) CI [some x0,some (kf a n k),some (.int (fm a k)),x3,x4] ((List.range' k m).map aM)=some (.nx [some x0,some (kf a n n),some (.int (fm a n)),y3,y4])
 | 0,k,x3,x4,h=>by
  have:k=n:=by omega
  subst this
  exact⟨x3,x4,rfl⟩
 | m+1,k,x3,x4,h=>by
  obtain⟨y3,y4,ih⟩:=gP.loop o x0 m (k+1) (some (aM k)) (some (bU (Tz a k) n k)) (by omega)
  refine⟨y3,y4,?_⟩
  rw[List.range'_succ,List.map_cons,mC,Lf,aa]
  show(CI [some x0,some (kf a n k),some (.int (fm a k)),some (aM k),x4]).bind _=_
  rw[o.turn (by omega),aa]
  exact ih
theorem gP.ret (o:gP a n)(x0 x3 x4:Option Dt):G3 [x0,some (kf a n n),some (.int (fm a n)),x3,x4]=some (.rt (.tup ((List.range n).map λ i=>aS (Rat.divInt (Tz a n i n) (fm a n))))):=by
 have h8:=o.da
 have ld:=o.lead n (ag _)
 have lc:=cP (enc:=λ i=>bU (Tz a n) n i) (gg:=ggN 0) (ge:=aT 2 cn (aK (bg dIx (aN 0) (gUn pJ (gC (.int 1)))) (aK (aN 1) aP))) (δc:=[none,some (.int (fm a n))]) (δa:=λ i=>[some (bU (Tz a n) n i),some (.int (fm a n))]) (enc':=λ i=>aS (Rat.divInt (Tz a n i n) (fm a n))) (List.range n) λ i _=>⟨rfl,by
  have rl:=E2 (a:=a) (n:=n) n i
  have ff:cn [.int (Tz a n i n),.int (fm a n)]=some (aS (Rat.divInt (Tz a n i n) (fm a n))):=by rw[lT,ae ld]
  generalize bU (Tz a n) n i=ri at *
  generalize aS (Rat.divInt (Tz a n i n) (fm a n))=en at *
  simp[gUn,pJ,rl,ff,-lT]⟩
 have hn:((List.range n).map λ i=>bU (Tz a n) n i).length<=1000:=by simp;omega
 unfold kf
 generalize (List.range n).map (λ i=>aS (Rat.divInt (Tz a n i n) (fm a n)))=res at *
 generalize (List.range n).map (λ i=>bU (Tz a n) n i)=zz at *
 simp[G3,lc,hn]
end
open Classical in
theorem CJ:Hg 1 E1 jM tE:=by
 intro ds d hl h
 match ds,h with
 | [.lst rs],h =>
  have h:(if rs=(List.range rs.length).map (bU (aOf rs) rs.length)/\gP (aOf rs) rs.length then some (Dt.tup ((List.range rs.length).map λ i=>aS (Rat.divInt (Tz (aOf rs) rs.length i rs.length) (fm (aOf rs) rs.length)))) else none)=some d:=by unfold jM at h;exact h
  by_cases hc:rs=(List.range rs.length).map (bU (aOf rs) rs.length)/\gP (aOf rs) rs.length
  ·rw[ae hc]at h
   cases h
   obtain⟨e,o⟩:=hc
   have h8:=o.da
   generalize aOf rs=a at *
   generalize hn:rs.length=n at *
   have et:Dt.lst rs=kf a n 0:=by rw[e];rfl
   refine⟨.rt _,?_,rfl⟩
   obtain⟨y3,y4,lp⟩:=o.loop (kf a n 0) n 0 none none (by omega)
   have rt:=o.ret (some (kf a n 0)) y3 y4
   have hr:pz [aM n]=some ((List.range n).map aM):=gN (n:=n) (by omega)
   rw[<-List.range_eq_range']at lp
   have l1:iI [kf a n 0]=some (aM n):=by rw[<-et];show some (Dt.int (rs.length:Int))=_;rw[hn]
   have l2:qT [kf a n 0]=some (kf a n 0):=rfl
   have f0:fm a 0=1:=rfl
   rw[f0]at lp
   rw[yK,et]
   show bP _ _ [some (kf a n 0),none,none,none,none]=_
   generalize (List.range n).map aM=rs' at *
   generalize (List.range n).map (λ i=>aS (Rat.divInt (Tz a n i n) (fm a n)))=res at *
   generalize kf a n n=tn at *
   generalize kf a n 0=t0 at *
   generalize CI=bb at *
   generalize G3=rr at *
   generalize aM n=nn at *
   simp[l1,l2,hr,lp,rt]
  ·rw[af hc]at h;cases h
end L2
namespace L2
open PySem PySem.Spec PyProof.Rows Zp Qs
open Dt0 (Tz fm)
theorem yL {a b:Nat->Nat->Int}{n:Nat}(h:∀ i j,i<n->j<=n->a i j=b i j):∀ k,k<=n->(∀ i j,i<n->j<=n->Tz a k i j=Tz b k i j)/\fm a k=fm b k
 | 0,_=>⟨h,rfl⟩
 | k+1,hk=>by
  obtain⟨h1,h2⟩:=yL h k (by omega)
  refine⟨λ i j hi hj=>?_,h1 k k (by omega) (by omega)⟩
  show(if i=k then Tz a k i j else (Tz a k k k*Tz a k i j-Tz a k i k*Tz a k k j) / fm a k)=(if i=k then Tz b k i j else (Tz b k k k*Tz b k i j-Tz b k i k*Tz b k k j) / fm b k)
  rw[h1 i j hi hj,h1 k k (by omega) (by omega),h1 i k hi (by omega),h1 k j (by omega) hj,h2]
theorem BB {a:Nat->Nat->Int}{n i j:Nat}(hi:i<n)(hj:j<=n):aOf ((List.range n).map (bU a n)) i j=a i j:=by
 unfold aOf
 rw[List.getElem?_map,List.getElem?_range hi]
 show(match ((List.range (n+1)).map λ j=>Dt.int (a i j))[j]? with | some (.int z)=>z | _=>0)=_
 rw[List.getElem?_map,List.getElem?_range (by omega)];rfl
open Classical in
theorem gP.solved {a:Nat->Nat->Int}{n:Nat}(o:gP a n):jM [.lst ((List.range n).map (bU a n))]=some (.tup ((List.range n).map λ i=>aS (Rat.divInt (Tz a n i n) (fm a n)))):=by
 have hl:((List.range n).map (bU a n)).length=n:=by simp
 have cg:=yL (a:=aOf ((List.range n).map (bU a n))) (b:=a) (n:=n) λ i j hi hj=>BB hi hj
 have hc:(List.range n).map (bU a n)=(List.range n).map (bU (aOf ((List.range n).map (bU a n))) n)/\gP (aOf ((List.range n).map (bU a n))) n:=by
  refine⟨aE λ i hi=>?_,o.da,λ k hk=>by rw[(cg k hk).2];exact o.lead k hk,λ k i j hk hi hj=>by rw[(cg k hk).1 i j hi hj];exact o.ent k i j hk hi hj⟩
  unfold bU
  congr 1
  refine aE λ j hj=>?_
  have h1:=ay.mp hi
  have h2:=ay.mp hj
  have:=BB (a:=a) h1 (show j<=n by omega)
  unfold bU at this
  rw[this]
 have e2:(List.range n).map (λ i=>aS (Rat.divInt (Tz (aOf ((List.range n).map (bU a n))) n i n) (fm (aOf ((List.range n).map (bU a n))) n)))=(List.range n).map λ i=>aS (Rat.divInt (Tz a n i n) (fm a n)):=aE λ i hi=>by
  rw[(cg n (ag _)).1 i n (ay.mp hi) (ag _),(cg n (ag _)).2]
 unfold jM
 simp only[hl]
 rw[ae hc,e2]
theorem Good.om {w:Web}(g:Good w)(i:Nat):dg w i<=7:=by
 unfold dg
 cases h:nb w.2 i with
 | nil=>exact Nat.zero_le _
 | cons x r =>
  have:=g.cq (p:=i) (j:=x) (by rw[h];exact ai)
  rw[<-h]
  exact g.JB i this.2.1
section
variable {w:Web}(g:Good w){gv:Nat->Option Int}{ad:Nat->Int}
include g
theorem Good.CK (hv:∀ i v,gv i=some v->v.natAbs<=1000)(ha:∀ i,(ad i).natAbs<=1000)(i j:Nat):(eqA w gv ad i j).natAbs<=1000:=by
 unfold eqA
 cases h:gv i with
 | some v =>
  show(if j=w.1 then v else if j=i then 1 else 0:Int).natAbs<=1000
  by_cases c:j=w.1
  ·rw[ae c];exact hv i v h
  ·rw[af c]
   by_cases c2:j=i
   ·rw[ae c2];decide
   ·rw[af c2];decide
 | none =>
  show(if j=w.1 then ad i else if j=i then (dg w i:Int) else if j∈nb w.2 i then -1 else 0:Int).natAbs<=1000
  by_cases c:j=w.1
  ·rw[ae c];exact ha i
  ·rw[af c]
   by_cases c2:j=i
   ·rw[ae c2];have:=g.om i;omega
   ·rw[af c2]
    by_cases c3:j∈nb w.2 i
    ·rw[ae c3];decide
    ·rw[af c3];decide
theorem Good.wd (hg:∃ p,p<w.1/\gv p≠none)(hv:∀ i v,gv i=some v->v.natAbs<=1000)(ha:∀ i,(ad i).natAbs<=1000) :
  gP (eqA w gv ad) w.1/\(∀ i,Rat.divInt (Tz (eqA w gv ad) w.1 i w.1) (fm (eqA w gv ad) w.1)=sol w gv ad i)/\∀ i,(sol w gv ad i).num.natAbs<2 ^ 200/\(sol w gv ad i).den<2 ^ 200:=by
 have mm:=g.mm (ad:=ad) hg
 have ab:=λ k (hk:k<=w.1) i j=>Dt0.Kr g.da mm.ne (g.CK hv ha) hk i j
 have pw:(2:Nat) ^ 200<=2 ^ 4000:=Nat.pow_le_pow_right (by decide) (by decide)
 have pos:∀ k,k<=w.1->0<fm (eqA w gv ad) k:=λ k hk=>by
  have h1:=mm.C1 k hk
  rw[<-(Dt0.wW mm.ne k hk).2.1]at h1
  exact Rat.intCast_pos.mp h1
 have so:gP (eqA w gv ad) w.1:=⟨g.da,λ k hk=>⟨pos k hk,aB (ab k hk 0 0).2 pw⟩,λ k i j hk _ _=>aB (ab k hk i j).1 pw⟩
 have eq:∀ i,Rat.divInt (Tz (eqA w gv ad) w.1 i w.1) (fm (eqA w gv ad) w.1)=sol w gv ad i:=λ i=>by
  obtain⟨t1,t2,t3⟩:=Dt0.wW mm.ne w.1 (ag _)
  rw[Rat.divInt_eq_div,t1,t2]
  show _=Dt0.rd (Dt0.qA (eqA w gv ad)) w.1 i w.1
  rw[Rat.div_def,Rat.mul_assoc,Rat.mul_inv_cancel _ t3,Rat.mul_one]
 refine⟨so,eq,λ i=>?_⟩
 have p:=pos w.1 (ag _)
 obtain⟨b1,b2⟩:=ab w.1 (ag _) i w.1
 rw[<-eq i]
 obtain⟨d1,d2⟩:=iJ (a:=Tz (eqA w gv ad) w.1 i w.1) p
 obtain⟨g1,g2⟩:=sG (a:=Tz (eqA w gv ad) w.1 i w.1) p
 generalize Rat.divInt (Tz (eqA w gv ad) w.1 i w.1) (fm (eqA w gv ad) w.1)=q at *
 generalize Tz (eqA w gv ad) w.1 i w.1=t at *
 generalize fm (eqA w gv ad) w.1=f at *
 constructor
 ·rw[d1]
  refine Nat.lt_of_le_of_lt ?_ b1
  exact Int.natAbs_ediv_le_natAbs _ _
 ·have:(q.den:Int)<=f:=by rw[d2];exact Int.ediv_le_self _ (by omega)
  have:q.den<=f.natAbs:=by omega
  exact Nat.lt_of_le_of_lt this b2
end
structure tF (w:Web)(kvs:List (Int×Int))(as:List Int):Prop where
 len:as.length=w.1
 has:∃ p,p<w.1/\gvD kvs p≠none
 vs:∀ i v,gvD kvs i=some v->v.natAbs<=1000
 ads:∀ a∈as,a.natAbs<=1000
open Classical in
noncomputable def fu:List Dt->Option Dt
 | [x,.dct kvs,.lst es]=>(dW x).bind λ w=>(d9 es).bind λ as=>if tF w kvs as then some (.tup ((List.range w.1).map λ i=>aS (sol w (gvD kvs) (adD as) i))) else none
 | _=>none
noncomputable def mV:DE->Option RD:=(cu (aT 1 jM (aK (gLC ["place"] [0,1,2] (lu (aK (bg dIx (aN 0) (gC (.int 0))) aP)) (ggN 0) dB (aT 4 kd (aK (aN 1) (aK (aN 0) (aK (aN 2) (aK (aN 3) aP)))))) aP)))
noncomputable abbrev Ag:List Str:=["web","given","added"]
open Classical in
theorem E3 {w:Web}(g:Good w){kvs:List (Int×Int)}{as:List Int}(b:tF w kvs as):fu [bf w,.dct kvs,.lst (as.map .int)]=some (.tup ((List.range w.1).map λ i=>aS (sol w (gvD kvs) (adD as) i))):=by
 unfold fu
 show(dW (bf w)).bind (λ w=>(d9 (as.map .int)).bind λ as=>if tF w kvs as then some (Dt.tup ((List.range w.1).map λ i=>aS (sol w (gvD kvs) (adD as) i))) else none)=_
 rw[iK g,jK,aa,aa,ae b]
theorem pN {as:List Int}(h:∀ a∈as,a.natAbs<=1000)(i:Nat):(adD as i).natAbs<=1000:=by
 unfold adD
 rw[aD]
 cases e:as[i]? with
 | none=>decide
 | some a=>exact h a (List.mem_of_getElem? e)
open Classical in
theorem yM:Hg 3 Ag fu mV:=by
 intro ds d hl h
 match ds,h with
 | [x,.dct kvs,.lst es],h =>
  have h:(dW x).bind (λ w=>(d9 es).bind λ as=>if tF w kvs as then some (Dt.tup ((List.range w.1).map λ i=>aS (sol w (gvD kvs) (adD as) i))) else none)=some d:=by unfold fu at h;exact h
  obtain⟨w,e1,h1⟩:=aQ h
  obtain⟨as,e2,h2⟩:=aQ h1
  obtain⟨rfl,g⟩:=d4 e1
  have e2:=fA e2
  clear h h1
  subst e2
  by_cases hc:tF w kvs as
  ·rw[ae hc]at h2
   cases h2
   obtain⟨so,eq,_⟩:=g.wd (ad:=adD as) hc.has hc.vs (pN hc.ads)
   have sv:=so.solved
   have er:(List.range w.1).map (λ i=>aS (Rat.divInt (Tz (eqA w (gvD kvs) (adD as)) w.1 i w.1) (fm (eqA w (gvD kvs) (adD as)) w.1)))=(List.range w.1).map λ i=>aS (sol w (gvD kvs) (adD as) i):=aE λ i _=>by rw[eq i]
   rw[er]at sv
   refine⟨.rt (.tup ((List.range w.1).map λ i=>aS (sol w (gvD kvs) (adD as) i))),?_,rfl⟩
   have h8:=g.da
   have hr:pz [aM w.1]=some ((List.range w.1).map aM):=gN (n:=w.1) (by omega)
   have ix:dIx (bf w) (.int 0)=some (aM w.1):=rfl
   have lc:=cP (enc:=aM) (gg:=ggN 0) (ge:=aT 4 kd (aK (aN 1) (aK (aN 0) (aK (aN 2) (aK (aN 3) aP))))) (δc:=[none,some (bf w),some (.dct kvs),some (.lst (as.map .int))]) (δa:=λ i=>[some (aM i),some (bf w),some (.dct kvs),some (.lst (as.map .int))]) (enc':=bU (eqA w (gvD kvs) (adD as)) w.1) (List.range w.1) λ i hi=>⟨rfl,by
    have eo:kd [bf w,aM i,.dct kvs,.lst (as.map .int)]=some (bU (eqA w (gvD kvs) (adD as)) w.1 i):=by
     show(dW (bf w)).bind (λ w=>(cw (aM i)).bind λ p=>(d9 (as.map .int)).bind λ as=>if p<w.1/\as.length=w.1 then some (bU (eqA w (gvD kvs) (adD as)) w.1 p) else none)=_
     rw[iK g,bH,jK,aa,aa,aa,ae ⟨ay.mp hi,hc.len⟩]
    generalize bU (eqA w (gvD kvs) (adD as)) w.1 i=r at *
    generalize as.map Dt.int=am at *
    generalize bf w=ww at *
    generalize aM i=ni at *
    simp[eo]⟩
   have hn:((List.range w.1).map aM).length<=1000:=by simp;omega
   generalize (List.range w.1).map (λ i=>aS (sol w (gvD kvs) (adD as) i))=res at *
   generalize (List.range w.1).map (bU (eqA w (gvD kvs) (adD as)) w.1)=rows at *
   generalize (List.range w.1).map aM=rs at *
   generalize as.map Dt.int=am at *
   generalize bf w=ww at *
   generalize aM w.1=nw at *
   simp[mV,ix,hr,lc,hn,sv]
  ·rw[af hc]at h2;cases h2
end L2
namespace L2
open PySem PySem.Spec PyProof.Rows Zp Qs
noncomputable def fr (c N:Nat):Rat:=Rat.divInt c N
theorem JY {c N:Nat}(h:0<N):0<=(fr c N).num/\(fr c N).num.natAbs<=c/\(fr c N).den<=N:=by
 obtain⟨h1,h2⟩:=iJ (a:=(c:Int)) (b:=(N:Int)) (by omega)
 obtain⟨h3,h4⟩:=sG (a:=(c:Int)) (b:=(N:Int)) (by omega)
 unfold fr
 generalize hg:((Int.gcd (c:Int) (N:Int):Nat):Int)=gg at *
 have k1:0<=(c:Int) / gg:=Int.ediv_nonneg (by omega) (by omega)
 have k2:(c:Int) / gg<=c:=Int.ediv_le_self _ (by omega)
 have k3:(N:Int) / gg<=N:=Int.ediv_le_self _ (by omega)
 exact⟨by rw[h1];exact k1,by rw[h1];omega,by omega⟩
section
variable {w:Web}(g:Good w)
include g
omit g in
theorem E4:cB w=(List.range w.1).map λ j=>fr (dg w j) (2*w.2.length):=by
 unfold cB iL
 rw[List.map_map]
 refine aE λ j _=>?_
 show Rat.divInt ((dg w j:Nat):Int) (2*(w.2.length:Int))=fr (dg w j) (2*w.2.length)
 unfold fr;simp
theorem Good.two_pos:0<2*w.2.length:=by have:=List.length_pos_iff.mpr g.ne;omega
theorem Good.il:(cB w).length=w.1:=by simp[cB,nQ]
theorem Good.E5 {j:Nat}(hj:j<w.1):(cB w).getD j 0=fr (dg w j) (2*w.2.length):=by
 rw[E4,aD,List.getElem?_map,List.getElem?_range hj];rfl
omit g in
theorem ones (xs:List Nat):(xs.map λ _=>1).sum=xs.length:=by
 induction xs with
 | nil=>rfl
 | cons a r ih=>simp[ih];omega
end
noncomputable def G4:Dt->Dt->Option Dt
 | .int k,.int v=>some (.dct [(k,v)])
 | _,_=>none
noncomputable def G5:Dt->Dt->Dt->Dt->Option Dt
 | .int k,.int v,.int k2,.int v2=>if k=k2 then none else some (.dct [(k,v),(k2,v2)])
 | _,_,_,_=>none
noncomputable def E6 (gk gv:DE->Option Dt):DE->Option Dt:=λ δ=>(gk δ).bind λ x=>(gv δ).bind λ y=>G4 x y
noncomputable def E7 (gk gv gk2 gv2:DE->Option Dt):DE->Option Dt:=λ δ=>(gk δ).bind λ x=>(gv δ).bind λ y=>(gk2 δ).bind λ x2=>(gv2 δ).bind λ y2=>G5 x y x2 y2
@[simp] theorem Nn {δ:DE} (gk gv:DE->Option Dt):E6 gk gv δ=(gk δ).bind λ x=>(gv δ).bind λ y=>G4 x y:=rfl
@[simp] theorem Np {δ:DE} (gk gv gk2 gv2:DE->Option Dt):E7 gk gv gk2 gv2 δ=(gk δ).bind λ x=>(gv δ).bind λ y=>(gk2 δ).bind λ x2=>(gv2 δ).bind λ y2=>G5 x y x2 y2:=rfl
theorem E8 {x y d:Dt}(h:G4 x y=some d):∃ k v,x=.int k/\y=.int v/\d=.dct [(k,v)]:=by
 cases x with
 | int k=>cases y with
  | int v=>exact⟨k,v,rfl,rfl,(ao h).symm⟩
  | _=>cases h
 | _=>cases h
theorem E9 {x y x2 y2 d:Dt}(h:G5 x y x2 y2=some d):∃ k v k2 v2,x=.int k/\y=.int v/\x2=.int k2/\y2=.int v2/\k≠k2/\d=.dct [(k,v),(k2,v2)]:=by
 cases x with
 | int k=>cases y with
  | int v=>cases x2 with
   | int k2=>cases y2 with
    | int v2 =>
     have h:(if k=k2 then none else some (Dt.dct [(k,v),(k2,v2)]))=some d:=h
     by_cases c:k=k2
     ·rw[ae c]at h;cases h
     ·rw[af c]at h;exact⟨k,v,k2,v2,rfl,rfl,rfl,rfl,c,(ao h).symm⟩
    | _=>cases h
   | _=>cases h
  | _=>cases h
 | _=>cases h
section
variable {X:Cx}{k v k2 v2:Expr}{pos:Pos}
theorem G6 {gk gv:DE->Option Dt}(hk:PD X k gk)(hv:PD X v gv):PD X (.Dict [some k] [v] pos) (E6 gk gv) :=
 (qQ (kQ hk hv qP) rfl rfl (by simp) (by simp)).of λ σ H Q hz=>by
  obtain⟨δ,d,S,e,q⟩:=hz
  obtain⟨x,e1,e⟩:=aQ e
  obtain⟨y,e2,e⟩:=aQ e
  obtain⟨a,b,rfl,rfl,rfl⟩:=E8 e
  intro p hp
  have s0:a_ H (upd H p (.dK [])):=a_.upd hp
  refine⟨δ,_,S.ext s0,e1,λ u H1 s1 i1=>⟨δ,_,(S.ext s0).ext s1,e2,λ u2 H2 s2 i2=>?_⟩⟩
  rw[i1.int_inv,i2.int_inv]
  refine⟨s2 _ _ (s1 _ _ aU),[(Sum.inl a,.int b)],rfl,by simp,q _ _ ?_ (.dct (.inl aU))⟩
  exact λ c o h=>by
   have cp:c≠p:=bw h hp
   rw[aV cp]
   exact s2 _ _ (s1 _ _ (s0 _ _ h))
theorem JZ {a b a2 b2:Int}(h:a≠a2):kS [] [(Sum.inl a,V.int b),(Sum.inl a2,V.int b2)]=kvD [(a,b),(a2,b2)]:=by
 show putK (putK [] (Sum.inl a) (V.int b)) (Sum.inl a2) (V.int b2)=_
 have e1:putK ([]:List (Key×V)) (Sum.inl a) (V.int b)=[(Sum.inl a,V.int b)]:=rfl
 rw[e1,rO _ (by rw[ng (by intro z;exact h (Sum.inl.inj z))];exact Dx)]
 rfl
theorem G7 {gk gv gk2 gv2:DE->Option Dt}(hk:PD X k gk)(hv:PD X v gv)(hk2:PD X k2 gk2)(hv2:PD X v2 gv2):PD X (.Dict [some k,some k2] [v,v2] pos) (E7 gk gv gk2 gv2) :=
 (qQ (kQ hk hv (kQ hk2 hv2 qP)) rfl rfl (by simp) (by simp)).of λ σ H Q hz=>by
  obtain⟨δ,d,S,e,q⟩:=hz
  obtain⟨x,e1,e⟩:=aQ e
  obtain⟨y,e2,e⟩:=aQ e
  obtain⟨x2,e3,e⟩:=aQ e
  obtain⟨y2,e4,e⟩:=aQ e
  obtain⟨a,b,a2,b2,rfl,rfl,rfl,rfl,ne,rfl⟩:=E9 e
  intro p hp
  have s0:a_ H (upd H p (.dK [])):=a_.upd hp
  refine⟨δ,_,S.ext s0,e1,λ u H1 s1 i1=>⟨δ,_,(S.ext s0).ext s1,e2,λ u2 H2 s2 i2=>⟨δ,_,((S.ext s0).ext s1).ext s2,e3,λ u3 H3 s3 i3=>⟨δ,_,(((S.ext s0).ext s1).ext s2).ext s3,e4,λ u4 H4 s4 i4=>?_⟩⟩⟩⟩
  rw[i1.int_inv,i2.int_inv,i3.int_inv,i4.int_inv]
  have sm:=s1.trans (s2.trans (s3.trans s4))
  refine⟨sm _ _ aU,[(Sum.inl a,.int b),(Sum.inl a2,.int b2)],rfl,by simp,?_⟩
  rw[JZ ne]
  refine q _ _ ?_ (.dct (.inl aU))
  exact λ c o h=>by
   have cp:c≠p:=bw h hp
   rw[aV cp]
   exact sm _ _ (s0 _ _ h)
end
noncomputable def bt (x:Rat)(e:Nat):Prop:=x.num.natAbs<2 ^ e/\x.den<2 ^ e
theorem E_ {a b:Int}(h:0<b):(Rat.divInt a b).num.natAbs<=a.natAbs/\(Rat.divInt a b).den<=b.natAbs:=by
 obtain⟨d1,d2⟩:=iJ (a:=a) h
 obtain⟨g1,g2⟩:=sG (a:=a) h
 constructor
 ·rw[d1];exact Int.natAbs_ediv_le_natAbs _ _
 ·have:((Rat.divInt a b).den:Int)<=b:=by rw[d2];exact Int.ediv_le_self _ (by omega)
  omega
theorem qV {x:Rat}{e f:Nat}(h:bt x e)(l:e<=f):bt x f:=⟨aB h.1 (Nat.pow_le_pow_right (by decide) l),aB h.2 (Nat.pow_le_pow_right (by decide) l)⟩
theorem tG {x:Rat}{e:Nat}(h:bt x e)(l:e<=1900):sm x:=qV h l
theorem Fb (x y:Rat):0<(x.den:Int)*y.den:=Int.mul_pos (by have:=x.den_pos;omega) (by have:=y.den_pos;omega)
theorem J0 {x y:Rat}{e f:Nat}(h:bt x e)(h':bt y f):bt (x+y) (e+f+1):=by
 obtain⟨d1,d2⟩:=E_ (a:=x.num*y.den+y.num*x.den) (Fb x y)
 rw[sI]at d1 d2
 have p1:x.num.natAbs*y.den<2 ^ e*2 ^ f:=Nat.mul_lt_mul'' h.1 h'.2
 have p2:y.num.natAbs*x.den<2 ^ f*2 ^ e:=Nat.mul_lt_mul'' h'.1 h.2
 have p3:x.den*y.den<2 ^ e*2 ^ f:=Nat.mul_lt_mul'' h.2 h'.2
 have e1:2 ^ (e+f+1)=2*(2 ^ e*2 ^ f):=by rw[Nat.pow_succ,Nat.pow_add];omega
 have e2:2 ^ f*2 ^ e=2 ^ e*2 ^ f:=Nat.mul_comm _ _
 rw[e2]at p2
 have a1:(x.num*y.den+y.num*x.den).natAbs<=x.num.natAbs*y.den+y.num.natAbs*x.den:=by
  refine Nat.le_trans (Int.natAbs_add_le _ _) ?_
  rw[Int.natAbs_mul,Int.natAbs_mul,Int.natAbs_natCast,Int.natAbs_natCast];exact ag _
 have a2:((x.den:Int)*y.den).natAbs=x.den*y.den:=by rw[Int.natAbs_mul,Int.natAbs_natCast,Int.natAbs_natCast]
 rw[a2]at d2
 unfold bt
 rw[e1]
 generalize 2 ^ e*2 ^ f=M at *
 constructor<;>omega
theorem Fc {x y:Rat}{e f:Nat}(h:bt x e)(h':bt y f):bt (x*y) (e+f):=by
 obtain⟨d1,d2⟩:=E_ (a:=x.num*y.num) (Fb x y)
 rw[sJ]at d1 d2
 have p1:x.num.natAbs*y.num.natAbs<2 ^ e*2 ^ f:=Nat.mul_lt_mul'' h.1 h'.1
 have p3:x.den*y.den<2 ^ e*2 ^ f:=Nat.mul_lt_mul'' h.2 h'.2
 rw[Int.natAbs_mul]at d1
 have a2:((x.den:Int)*y.den).natAbs=x.den*y.den:=by rw[Int.natAbs_mul,Int.natAbs_natCast,Int.natAbs_natCast]
 rw[a2]at d2
 unfold bt
 rw[Nat.pow_add]
 generalize 2 ^ e*2 ^ f=M at *
 constructor<;>omega
theorem G8:bt 0 1:=⟨by decide,by decide⟩
theorem J3:bt 1 1:=⟨by decide,by decide⟩
theorem Fd {f:Nat}:∀ (l:List Rat) (a:Rat) (e:Nat),bt a e->(∀ x∈l,bt x f)->f<=1900->e+l.length*(f+1)<=1900->qz a l=some (a+l.sum)/\bt (a+l.sum) (e+l.length*(f+1))
 | [],a,e,h,_,_,hl=>by
  have:a+([]:List Rat).sum=a:=by show a+0=a;grind
  rw[this]
  exact⟨rfl,qV h (by simp)⟩
 | x::r,a,e,h,hx,hf,hl=>by
  rw[List.length_cons,Nat.succ_mul]at hl
  have hxx:=hx x ai
  obtain⟨i1,i2⟩:=Fd r (a+x) (e+f+1) (J0 h hxx) (λ y hy=>hx y (ak _ hy)) hf (by omega)
  have ea:a+(x::r).sum=a+x+r.sum:=by rw[List.sum_cons];grind
  rw[ea]
  refine⟨?_,qV i2 (by rw[List.length_cons,Nat.succ_mul];omega)⟩
  show(if sm a/\sm x then qz (a+x) r else none)=_
  rw[ae ⟨tG h (by omega),tG hxx hf⟩]
  exact i1
theorem BC {f:Nat}{l:List Rat}(h:∀ x∈l,bt x f)(hf:f<=1900)(hl:1+l.length*(f+1)<=1900):qz 0 l=some l.sum/\bt l.sum (1+l.length*(f+1)):=by
 have:=Fd l 0 1 G8 h hf hl
 have e:0+l.sum=l.sum:=by grind
 rw[e]at this
 exact this
noncomputable def meL (w:Web)(b:Nat):List Rat:=(List.range w.1).map (meQ w b)
noncomputable def ahL (w:Web)(a b:Nat):List Rat:=(List.range w.1).map (ahQ w a b)
noncomputable def piQ (w:Web)(j:Nat):Rat:=(cB w).getD j 0
noncomputable def drL (w:Web)(i:Nat):List Rat:=(List.range w.1).map λ j=>piQ w j*meQ w j i
noncomputable def fi:List Dt->Option Dt:=nJ λ x y=>(dW x).bind λ w=>(cw y).bind λ b=>if b<w.1 then some (.tup ((meL w b).map aS)) else none
noncomputable def kg:List Dt->Option Dt
 | [x,y,z]=>(dW x).bind λ w=>(cw y).bind λ b=>(dQt z).bind λ l=>if b<w.1/\l.length=w.1 then some (.bl (decide (l=meL w b))) else none
 | _=>none
noncomputable def pO:List Dt->Option Dt:=nJ λ x y=>(dW x).bind λ w=>(cw y).bind λ b=>if b<w.1 then some (aS (piQ w b)⁻¹) else none
noncomputable def i_:List Dt->Option Dt:=nJ λ x y=>(cw x).bind λ a=>(cw y).bind λ b=>if a≠b then some .non else none
noncomputable def hG:List Dt->Option Dt
 | [x,y,z]=>(dW x).bind λ w=>(cw y).bind λ a=>(cw z).bind λ b=>if a<w.1/\b<w.1/\a≠b then some .non else none
 | _=>none
noncomputable def fj:List Dt->Option Dt
 | [x,y,z]=>(dW x).bind λ w=>(cw y).bind λ a=>(cw z).bind λ b=>if a<w.1/\b<w.1/\a≠b then some (.tup ((ahL w a b).map aS)) else none
 | _=>none
noncomputable def oq:List Dt->Option Dt
 | [x,p,y,z]=>(dW x).bind λ w=>(cw p).bind λ p=>(cw y).bind λ a=>(cw z).bind λ b=>if p<w.1/\a<w.1/\b<w.1/\a≠b then some (aS (ahQ w a b p)) else none
 | _=>none
noncomputable def qW:List Dt->Option Dt:=mq λ x=>(dW x).map λ w=>aS (drL w 0).sum
noncomputable def we:DE->Option RD:=(bP (eZ (aT 1 de (aK (aN 0) aP))) (bP (eZ (aT 2 bR (aK (aN 0) (aK (aN 1) aP)))) (cu (aT 3 fu (aK (aN 0) (aK (E6 (aN 1) (gC (.int 0))) (aK (aT 1 hZ (aK (aN 0) aP)) aP)))))))
noncomputable abbrev G9:List Str:=["web","goal"]
noncomputable def mW:DE->Option RD:=(bP (dR 3 (aT 2 fi (aK (aN 0) (aK (aN 1) aP)))) (cu (tX (aT 2 fh (aK (aN 2) (aK (bK iI (aK (aN 3) aP)) aP))) (bg gY (aN 2) (aN 3)))))
noncomputable abbrev Ah:List Str:=["web","goal","thing","told"]
noncomputable def Ai:DE->Option RD:=(bP (eZ (aT 1 de (aK (aN 0) aP))) (bP (eZ (aT 2 bR (aK (aN 0) (aK (aN 1) aP)))) (bP (qx (fJ 2 3) (bg dIx (aT 1 gw (aK (aN 0) aP)) (aN 1))) (cu (eU (aK (aN 3) (aK (aN 2) aP)))))))
noncomputable abbrev J4:List Str:=["web","place","top","bottom"]
noncomputable def lH:DE->Option RD:=(jt (gB (bg gY (aN 0) (aN 1))) pA fy)
noncomputable abbrev yN:List Str:=["a","b"]
noncomputable def kh:DE->Option RD:=(bP (eZ (aT 1 de (aK (aN 0) aP))) (bP (eZ (aT 2 bR (aK (aN 0) (aK (aN 1) aP)))) (bP (eZ (aT 2 bR (aK (aN 0) (aK (aN 2) aP)))) (eZ (aT 2 i_ (aK (aN 1) (aK (aN 2) aP)))))))
noncomputable abbrev wg:List Str:=["web","a","b"]
noncomputable def g6:DE->Option RD:=(cu (aT 3 fu (aK (aN 0) (aK (E7 (aN 1) (gC (.int 1)) (aN 2) (gC (.int 0))) (aK (bg Gn (xH (aK (gC (.int 0)) aP)) (bg dIx (aN 0) (gC (.int 0)))) aP)))))
noncomputable abbrev qF:List Str:=["web","one","other"]
noncomputable def wj:DE->Option RD:=(bP (eZ (aT 1 de (aK (aN 0) aP))) (bP (eZ (aT 2 bR (aK (aN 0) (aK (aN 1) aP)))) (bP (eZ (aT 3 hG (aK (aN 0) (aK (aN 2) (aK (aN 3) aP))))) (cu (bg dIx (aT 3 fj (aK (aN 0) (aK (aN 2) (aK (aN 3) aP)))) (aN 1))))))
noncomputable abbrev G_:List Str:=["web","place","one","other"]
noncomputable def wk:DE->Option RD:=(cu (aT 1 nM (aK (gLC ["goal","share"] [0] (qj true (aK (aT 1 gw (aK (aN 0) aP)) aP)) (fJ 0 1) dB (aT 2 jZ (aK (aN 1) (aK (bg dIx (aT 2 fi (aK (aN 2) (aK (aN 0) aP))) (gC (.int 0))) aP)))) aP)))
noncomputable abbrev Ha:List Str:=["web"]
theorem BD (b:Nat):gvD [((b:Int),0)]=gvM b:=by
 funext i
 unfold gvD gvM eu
 by_cases c:i=b
 ·subst c;simp
 ·have:¬ ((b:Int)=(i:Int)):=by omega
  simp[this,c]
theorem BE {a b:Nat}(ne:a≠b):gvD [((a:Int),1),((b:Int),0)]=gvA a b:=by
 funext i
 unfold gvD gvA eu
 by_cases c:i=a
 ·subst c;simp
 ·have h1:¬ ((a:Int)=(i:Int)):=by omega
  by_cases c2:i=b
  ·subst c2;simp[h1,c]
  ·have h2:¬ ((b:Int)=(i:Int)):=by omega
   simp[h1,h2,c,c2]
theorem Good.J5 {w:Web}(g:Good w){i:Nat}(h:w.1<=i):dg w i=0:=by
 unfold dg
 cases e:nb w.2 i with
 | nil=>rfl
 | cons x r =>
  have:=g.cq (p:=i) (j:=x) (by rw[e];exact ai)
  omega
theorem Good.BF {w:Web}(g:Good w):adD ((iL w).map λ(k:Nat)=>(k:Int))=λ i=>(dg w i:Int):=by
 funext i
 unfold adD
 rw[aD,List.getElem?_map]
 by_cases h:i<w.1
 ·unfold iL
  rw[List.getElem?_map,List.getElem?_range h];rfl
 ·have:(iL w)[i]?=none:=List.getElem?_eq_none (by rw[nQ];omega)
  rw[this,g.J5 (by omega)];rfl
theorem yO (n:Nat):adD (List.replicate n 0)=λ _=>0:=by
 funext i
 unfold adD
 rw[aD,List.getElem?_replicate]
 split<;>rfl
theorem Good.LO {w:Web}(g:Good w):hZ [bf w]=some (.lst (((iL w).map λ(k:Nat)=>(k:Int)).map .int)):=by
 show(dW (bf w)).map (λ w=>Dt.lst ((iL w).map aM))=_
 rw[iK g,Option.map_some,List.map_map];rfl
theorem Good.wm {w:Web}(g:Good w){b:Nat}(hb:b<w.1):tF w [((b:Int),0)] ((iL w).map λ(k:Nat)=>(k:Int)):=by
 refine⟨by rw[ah,nQ],by rw[BD];exact lY hb,λ i v h=>?_,λ a ha=>?_⟩
 ·rw[BD]at h
  unfold gvM at h
  by_cases c:i=b
  ·rw[ae c]at h;cases h;decide
  ·rw[af c]at h;cases h
 ·obtain⟨k,hk,rfl⟩:=aA.mp ha
  obtain⟨p,_,rfl⟩:=aA.mp hk
  have:=g.om p
  unfold dg at this
  omega
theorem Good.wo {w:Web}(g:Good w){a b:Nat}(ha:a<w.1)(ne:a≠b):tF w [((a:Int),1),((b:Int),0)] (List.replicate w.1 0):=by
 refine⟨by simp,by rw[BE ne];exact n4 ha,λ i v h=>?_,λ x hx=>?_⟩
 ·rw[BE ne]at h
  unfold gvA at h
  by_cases c:i=a
  ·rw[ae c]at h;cases h;decide
  ·rw[af c]at h
   by_cases c2:i=b
   ·rw[ae c2]at h;cases h;decide
   ·rw[af c2]at h;cases h
 ·rw[List.eq_of_mem_replicate hx];decide
theorem Good.BG {w:Web}(g:Good w){b:Nat}(hb:b<w.1)(i:Nat):bt (meQ w b i) 200:=by
 have:=(g.wd (gv:=gvD [((b:Int),0)]) (ad:=adD ((iL w).map λ(k:Nat)=>(k:Int))) (g.wm hb).has (g.wm hb).vs (pN (g.wm hb).ads)).2.2 i
 rw[BD,g.BF]at this
 exact this
theorem Good.HV {w:Web}(g:Good w){a b:Nat}(ha:a<w.1)(ne:a≠b)(i:Nat):bt (ahQ w a b i) 200:=by
 have:=(g.wd (gv:=gvD [((a:Int),1),((b:Int),0)]) (ad:=adD (List.replicate w.1 0)) (g.wo ha ne).has (g.wo ha ne).vs (pN (g.wo ha ne).ads)).2.2 i
 rw[BE ne,yO]at this
 exact this
theorem CL {w:Web}(g:Good w){b:Nat}(hb:b<w.1):fi [bf w,aM b]=some (.tup ((meL w b).map aS)):=by
 show(dW (bf w)).bind (λ w=>(cw (aM b)).bind λ b=>if b<w.1 then some (Dt.tup ((meL w b).map aS)) else none)=_
 rw[iK g,bH,aa,aa,ae hb]
theorem Fe:Hg 2 G9 fi we:=by
 intro ds d hl h
 obtain⟨x,y,rfl,h⟩:=fL (show nJ _ ds=_ from h)
 obtain⟨w,e1,h⟩:=aQ h
 obtain⟨b,e3,h⟩:=aQ h
 by_cases hb:b<w.1
 ·rw[ae hb]at h
  cases h
  obtain⟨rfl,g⟩:=d4 e1
  rw[bJ e3]
  refine⟨.rt (.tup ((meL w b).map aS)),?_,rfl⟩
  have c1:=lW e1
  have c2:=h_ e1 hb
  have bo:=E3 g (g.wm hb)
  rw[BD,g.BF]at bo
  have er:(List.range w.1).map (λ i=>aS (sol w (gvM b) (λ i=>(dg w i:Int)) i))=(meL w b).map aS:=by unfold meL;rw[List.map_map];rfl
  rw[er]at bo
  have fd:=g.LO
  have pr:G4 (aM b) (.int 0)=some (.dct [((b:Int),0)]):=rfl
  generalize (meL w b).map aS=res at *
  generalize ((iL w).map λ(k:Nat)=>(k:Int)).map Dt.int=dd at *
  generalize Dt.dct [((b:Int),0)]=kk at *
  generalize bf w=ww at *
  generalize aM b=nb at *
  simp[we,c1,c2,fd,pr,bo]
 ·rw[af hb]at h;cases h
theorem wq (w:Web)(b:Nat):(meL w b).length=w.1:=by simp[meL]
theorem yP:Hg 3 Ah kg mW:=by
 intro ds d hl h
 match ds,h with
 | [x,y,z],h =>
  obtain⟨w,e1,h⟩:=aQ (show(dW x).bind _=_ from h)
  obtain⟨b,e2,h⟩:=aQ h
  obtain⟨l,e3,h⟩:=aQ h
  by_cases hc:b<w.1/\l.length=w.1
  ·rw[ae hc]at h
   cases h
   obtain⟨rfl,g⟩:=d4 e1
   rw[bJ e2,GH e3]
   refine⟨.rt (.bl (decide (l=meL w b))),?_,rfl⟩
   have h8:=g.da
   have fm:=CL g hc.1
   have hlen:((meL w b).map aS).length=w.1:=by rw[ah,wq]
   have e4:=JA hc.2 (by omega)
   have e5:=Lk l (meL w b)
   generalize (meL w b).map aS=us at fm e5 hlen
   generalize l.map aS=ls at e4 e5 ⊢
   generalize bf w=ww at *
   generalize aM b=nb at *
   simp only[aM]at e4
   simp[mW,fm,hlen,e4,e5]
  ·rw[af hc]at h;cases h
theorem Good.BH {w:Web}(g:Good w){j:Nat}(hj:j<w.1):piQ w j=fr (dg w j) (2*w.2.length):=g.E5 hj
theorem Good.Aj {w:Web}(g:Good w){j:Nat}(hj:j<w.1):0<piQ w j:=by
 rw[g.BH hj]
 unfold fr
 have h1:0<dg w j:=g.vU j hj
 have h2:=g.two_pos
 rw[Rat.divInt_eq_div]
 have h3:(0:Rat)<((dg w j:Int):Rat):=Rat.intCast_pos.mpr (by omega)
 have h4:(0:Rat)<(((2*w.2.length:Nat):Int):Rat):=Rat.intCast_pos.mpr (by omega)
 rw[Rat.div_def]
 exact Rat.mul_pos h3 (Rat.inv_pos.mpr h4)
theorem BJ {x:Rat}(h:0<x):aS x⁻¹=.tup [.int x.den,.int x.num]:=by
 have hn:0<x.num:=by
  have:=Rat.num_nonneg.mpr (show(0:Rat)<=x by grind)
  have ne:x.num≠0:=λ z=>by rw[Rat.num_eq_zero]at z;grind
  omega
 unfold aS
 rw[Rat.inv_def]
 have h2:x.num.natAbs=x.num:=by omega
 have e:=mL (a:=(x.den:Int)) (b:=x.num) hn (by rw[Int.gcd_comm];simpa [Int.gcd,Nat.Coprime] using x.reduced)
 rw[e.1,e.2]
theorem Hb:Hg 2 J4 pO Ai:=by
 intro ds d hl h
 obtain⟨x,y,rfl,h⟩:=fL (show nJ _ ds=_ from h)
 obtain⟨w,e1,h⟩:=aQ h
 obtain⟨b,e3,h⟩:=aQ h
 by_cases hb:b<w.1
 ·rw[ae hb]at h
  cases h
  obtain⟨rfl,g⟩:=d4 e1
  rw[bJ e3]
  refine⟨.rt (aS (piQ w b)⁻¹),?_,rfl⟩
  have c1:=lW e1
  have c2:=h_ e1 hb
  have fs:gw [bf w]=some (.tup ((cB w).map aS)):=by
   show(dW (bf w)).map _=_
   rw[e1];rfl
  have ix:dIx (.tup ((cB w).map aS)) (aM b)=some (.tup [.int (piQ w b).num,.int (piQ w b).den]):=getD_at (by rw[g.il];exact hb)
  rw[BJ (g.Aj hb)]
  generalize (cB w).map aS=ss at *
  generalize bf w=ww at *
  generalize aM b=nb at *
  simp[Ai,c1,c2,fs,ix]
 ·rw[af hb]at h;cases h
theorem wu:Hg 2 yN i_ lH:=by
 intro ds d hl h
 obtain⟨x,y,rfl,h⟩:=fL (show nJ _ ds=_ from h)
 obtain⟨a,e1,h⟩:=aQ h
 obtain⟨b,e2,h⟩:=aQ h
 rw[bJ e1,bJ e2]
 by_cases hc:a≠b
 ·rw[ae hc]at h
  cases h
  have:gY (aM a) (aM b)=some (.bl false):=by
   show some (Dt.bl ((a:Int)==(b:Int)))=_
   have:((a:Int)==(b:Int))=false:=by simp;omega
   rw[this]
  generalize aM a=na at *
  generalize aM b=nb at *
  refine⟨.nx [some na,some nb],?_,rfl⟩
  simp[lH,this]
 ·rw[af hc]at h;cases h
theorem Hc {a b:Nat}(h:a≠b):i_ [aM a,aM b]=some .non:=by
 show(cw (aM a)).bind (λ a=>(cw (aM b)).bind λ b=>if a≠b then some Dt.non else none)=_
 rw[bH,bH,aa,aa,ae h]
theorem ug:Hg 3 wg hG kh:=by
 intro ds d hl h
 match ds,h with
 | [x,y,z],h =>
  obtain⟨w,e1,h⟩:=aQ (show(dW x).bind _=_ from h)
  obtain⟨a,e2,h⟩:=aQ h
  obtain⟨b,e3,h⟩:=aQ h
  by_cases hc:a<w.1/\b<w.1/\a≠b
  ·rw[ae hc]at h
   cases h
   obtain⟨rfl,g⟩:=d4 e1
   rw[bJ e2,bJ e3]
   have c1:=lW e1
   have c2:=h_ e1 hc.1
   have c3:=h_ e1 hc.2.1
   have c4:=Hc hc.2.2
   generalize bf w=ww at *
   generalize aM a=na at *
   generalize aM b=nb at *
   refine⟨.nx [some ww,some na,some nb],?_,rfl⟩
   simp[kh,c1,c2,c3,c4]
  ·rw[af hc]at h;cases h
theorem pP:Hg 3 qF fj g6:=by
 intro ds d hl h
 match ds,h with
 | [x,y,z],h =>
  obtain⟨w,e1,h⟩:=aQ (show(dW x).bind _=_ from h)
  obtain⟨a,e2,h⟩:=aQ h
  obtain⟨b,e3,h⟩:=aQ h
  by_cases hc:a<w.1/\b<w.1/\a≠b
  ·rw[ae hc]at h
   cases h
   obtain⟨rfl,g⟩:=d4 e1
   rw[bJ e2,bJ e3]
   refine⟨.rt (.tup ((ahL w a b).map aS)),?_,rfl⟩
   have h8:=g.da
   have bo:=E3 g (g.wo hc.1 hc.2.2)
   rw[BE hc.2.2,yO]at bo
   have er:(List.range w.1).map (λ i=>aS (sol w (gvA a b) (λ _=>0) i))=(ahL w a b).map aS:=by unfold ahL;rw[List.map_map];rfl
   rw[er,List.map_replicate]at bo
   have pr:G5 (aM a) (.int 1) (aM b) (.int 0)=some (.dct [((a:Int),1),((b:Int),0)]):=by
    show(if (a:Int)=(b:Int) then none else some (Dt.dct [((a:Int),1),((b:Int),0)]))=_
    rw[af (by omega)]
   have ix:dIx (bf w) (.int 0)=some (aM w.1):=rfl
   have rp:Gn (.lst [.int 0]) (aM w.1)=some (.lst (List.replicate w.1 (.int 0))):=by
    show(if 0<=(w.1:Int)/\(w.1:Int)<=1000 then some (Dt.lst (List.replicate (w.1:Int).toNat (.int 0))) else none)=_
    rw[ae (by omega),Int.toNat_natCast]
   generalize (ahL w a b).map aS=res at *
   generalize List.replicate w.1 (Dt.int 0)=dd at *
   generalize Dt.dct [((a:Int),1),((b:Int),0)]=kk at *
   generalize bf w=ww at *
   generalize aM w.1=nw at *
   generalize aM a=na at *
   generalize aM b=nb at *
   simp[g6,pr,ix,rp,bo]
  ·rw[af hc]at h;cases h
theorem Ff:Hg 4 G_ oq wj:=by
 intro ds d hl h
 match ds,h with
 | [x,p,y,z],h =>
  obtain⟨w,e1,h⟩:=aQ (show(dW x).bind _=_ from h)
  obtain⟨q,e4,h⟩:=aQ h
  obtain⟨a,e2,h⟩:=aQ h
  obtain⟨b,e3,h⟩:=aQ h
  by_cases hc:q<w.1/\a<w.1/\b<w.1/\a≠b
  ·rw[ae hc]at h
   cases h
   obtain⟨rfl,g⟩:=d4 e1
   rw[bJ e2,bJ e3,bJ e4]
   refine⟨.rt (aS (ahQ w a b q)),?_,rfl⟩
   have c1:=lW e1
   have c2:=h_ e1 hc.1
   have c3:hG [bf w,aM a,aM b]=some .non:=by
    show(dW (bf w)).bind (λ w=>(cw (aM a)).bind λ a=>(cw (aM b)).bind λ b=>if a<w.1/\b<w.1/\a≠b then some Dt.non else none)=_
    rw[e1,bH,bH,aa,aa,aa,ae hc.2]
   have c4:fj [bf w,aM a,aM b]=some (.tup ((ahL w a b).map aS)):=by
    show(dW (bf w)).bind (λ w=>(cw (aM a)).bind λ a=>(cw (aM b)).bind λ b=>if a<w.1/\b<w.1/\a≠b then some (Dt.tup ((ahL w a b).map aS)) else none)=_
    rw[e1,bH,bH,aa,aa,aa,ae hc.2]
   have ix:dIx (.tup ((ahL w a b).map aS)) (aM q)=some (aS (ahQ w a b q)):=by
    have:=getD_at (l:=ahL w a b) (j:=q) (by unfold ahL;simp;exact hc.1)
    have e:(ahL w a b).getD q 0=ahQ w a b q:=by unfold ahL;rw[aD,List.getElem?_map,List.getElem?_range hc.1];rfl
    rw[e]at this
    exact this
   generalize (ahL w a b).map aS=res at *
   generalize aS (ahQ w a b q)=eq at *
   generalize bf w=ww at *
   generalize aM q=nq at *
   generalize aM a=na at *
   generalize aM b=nb at *
   simp[wj,c1,c2,c3,c4,ix]
  ·rw[af hc]at h;cases h
theorem Good.yQ {w:Web}(g:Good w){j:Nat}(hj:j<w.1):bt (piQ w j) 10:=by
 rw[g.BH hj]
 have h1:=g.two_pos
 obtain⟨_,h2,h3⟩:=JY (c:=dg w j) h1
 have h4:=g.om j
 have h5:=g.len
 have:(2:Nat) ^ 10=1024:=rfl
 unfold bt
 rw[this]
 constructor<;>omega
theorem Good.Fg {w:Web}(g:Good w)(i:Nat):qz 0 (drL w i)=some (drL w i).sum:=by
 have hl:(drL w i).length=w.1:=by simp[drL]
 have h8:=g.da
 refine(BC (f:=210) (λ x hx=>?_) (by decide) (by rw[hl];omega)).1
 obtain⟨j,hj,rfl⟩:=aA.mp hx
 have hj:=ay.mp hj
 exact Fc (g.yQ hj) (g.BG hj i)
theorem BK {w:Web}{b i:Nat}(hi:i<w.1):dIx (.tup ((meL w b).map aS)) (aM i)=some (aS (meQ w b i)):=by
 have:=getD_at (l:=meL w b) (j:=i) (by rw[wq];exact hi)
 have e:(meL w b).getD i 0=meQ w b i:=by unfold meL;rw[aD,List.getElem?_map,List.getElem?_range hi];rfl
 rw[e]at this
 exact this
theorem Ak {x y:Rat}{e f:Nat}(hx:bt x e)(hy:bt y f)(he:e<=1900)(hf:f<=1900):jZ [aS x,aS y]=some (aS (x*y)):=by
 show(dQ (aS x)).bind (λ a=>(dQ (aS y)).bind λ b=>if sm a/\sm b then some (aS (a*b)) else none)=_
 rw[mM,mM,aa,aa,ae ⟨tG hx he,tG hy hf⟩]
theorem Fh {x y:Rat}{e f:Nat}(hx:bt x e)(hy:bt y f)(he:e<=1900)(hf:f<=1900):mN [aS x,aS y]=some (aS (x+y)):=by
 show(dQ (aS x)).bind (λ a=>(dQ (aS y)).bind λ b=>if sm a/\sm b then some (aS (a+b)) else none)=_
 rw[mM,mM,aa,aa,ae ⟨tG hx he,tG hy hf⟩]
theorem Al {l:List Rat}{q:Rat}(h:qz 0 l=some q):nM [.lst (l.map aS)]=some (aS q):=by
 show(dQs (l.map aS)).bind (λ l=>(qz 0 l).map aS)=_
 rw[vK,aa,h];rfl
theorem Fi:Hg 1 Ha qW wk:=by
 intro ds d hl h
 obtain⟨x,rfl,h⟩:=dE h
 obtain⟨w,e1,rfl⟩:=br h
 obtain⟨rfl,g⟩:=d4 e1
 have h8:=g.da
 have two:=g.two
 refine⟨.rt (aS (drL w 0).sum),?_,rfl⟩
 have fs:gw [bf w]=some (.tup ((cB w).map aS)):=by
  show(dW (bf w)).map _=_
  rw[e1];rfl
 have sl:(cB w).map aS=(List.range w.1).map λ j=>aS (piQ w j):=by
  apply List.ext_getElem?
  intro i
  rw[List.getElem?_map,List.getElem?_map]
  by_cases c:i<w.1
  ·rw[List.getElem?_range c,aF (by rw[g.il];exact c)]
   have hi:i<(cB w).length:=by rw[g.il];exact c
   show some (aS ((cB w)[i]'hi))=some (aS ((cB w).getD i 0))
   rw[aD,aF (by rw[g.il];exact c)];rfl
  ·rw[List.getElem?_eq_none (by rw[g.il];omega),List.getElem?_eq_none (by simp;omega)];rfl
 have en:=mU true (x:=.tup ((cB w).map aS)) (λ j=>aS (piQ w j)) w.1 (by show some _=some _;rw[sl])
 have lc:=cP (enc:=λ j=>Dt.tup [aM j,aS (piQ w j)]) (gg:=fJ 0 1) (ge:=aT 2 jZ (aK (aN 1) (aK (bg dIx (aT 2 fi (aK (aN 2) (aK (aN 0) aP))) (gC (.int 0))) aP))) (δc:=[none,none,some (bf w)]) (δa:=λ j=>[some (aM j),some (aS (piQ w j)),some (bf w)]) (enc':=λ j=>aS (piQ w j*meQ w j 0)) (List.range w.1) λ j hj=>⟨rfl,by
  have hj:=ay.mp hj
  have fm:=CL g hj
  have ix:dIx (.tup ((meL w j).map aS)) (.int 0)=some (aS (meQ w j 0)):=BK (i:=0) (by omega)
  have tk:=Ak (g.yQ hj) (g.BG hj 0) (by decide) (by decide)
  generalize (meL w j).map aS=ms at *
  generalize aS (piQ w j*meQ w j 0)=res at *
  generalize aS (meQ w j 0)=eq at *
  generalize aS (piQ w j)=ep at *
  generalize bf w=ww at *
  generalize aM j=nj at *
  simp[fm,ix,tk]⟩
 have lr:(List.range w.1).map (λ j=>aS (piQ w j*meQ w j 0))=(drL w 0).map aS:=by unfold drL;rw[List.map_map];rfl
 rw[lr]at lc
 have tt:=Al (g.Fg 0)
 have hn:((List.range w.1).map λ j=>Dt.tup [aM j,aS (piQ w j)]).length<=1000:=by simp;omega
 generalize (drL w 0).map aS=dd at *
 generalize aS (drL w 0).sum=res at *
 generalize (List.range w.1).map (λ j=>Dt.tup [aM j,aS (piQ w j)])=zz at *
 generalize (cB w).map aS=ss at *
 generalize bf w=ww at *
 simp[wk,fs,en,lc,hn,tt]
noncomputable def n6:DE->Option RD:=(jt (gB (bg fX (aT 2 fi (aK (aN 4) (aK (gC (.int 0)) aP))) (bK jv (aK (gLC ["_law_number"] [] (gI d_ (aT 2 j_ (aK (aN 4) (aK (gC (.int 0)) aP)))) (ggN 0) dB (eU (aK (aN 0) (aK (gC (.int 1)) aP)))) aP)))) (cu (gC (.bl false))) fy)
noncomputable def n7:DE->Option RD:=(jt (qw (gB (bg fX (aT 2 cy (aK (aT 2 pO (aK (aN 3) (aK (aN 5) aP))) (aK (bg dIx (aT 1 gw (aK (aN 3) aP)) (aN 5)) aP))) (eU (aK (gC (.int 1)) (aK (gC (.int 1)) aP))))) (gB (bg Ba (aT 3 kg (aK (aN 3) (aK (aN 5) (aK (aT 2 fi (aK (aN 3) (aK (aN 5) aP))) aP)))) (gC (.bl true))))) (cu (gC (.bl false))) fy)
noncomputable def n8:DE->Option RD:=(jt (gB (bg fX (aT 2 cH (aK (aT 4 oq (aK (aN 3) (aK (aN 6) (aK (aN 7) (aK (aN 8) aP))))) (aK (aT 4 oq (aK (aN 3) (aK (aN 6) (aK (aN 8) (aK (aN 7) aP))))) aP))) (eU (aK (gC (.int 1)) (aK (gC (.int 1)) aP))))) (cu (gC (.bl false))) fy)
noncomputable def n9:DE->Option RD:=(dR 9 (gLC ["_law_there"] [6,3] (lu (aK (bg dIx (aN 3) (gC (.int 0))) aP)) (ggN 0) dB (aT 2 cy (aK (bg dIx (aT 1 gw (aK (aN 2) aP)) (aN 0)) (aK (bg dIx (aT 2 fi (aK (aN 2) (aK (aN 0) aP))) (aN 1)) aP)))))
noncomputable def n10:DE->Option RD:=(jt (gB (bg fX (aT 1 dJ (aK (aN 9) aP)) (aT 1 qW (aK (aN 3) aP)))) (cu (gC (.bl false))) fy)
noncomputable def n11:DE->Option RD:=(dR 10 (aT 2 fi (aK (aN 3) (aK (aN 5) aP))))
noncomputable def n12:DE->Option RD:=(xJ (lu (aK (bg dIx (aN 3) (gC (.int 0))) aP)) (ggN 11) (bP (dR 12 (aT 2 gO (aK (aN 3) (aK (aN 11) aP)))) (bP (dR 13 (aT 2 cH (aK (eU (aK (gC (.int 1)) (aK (gC (.int 1)) aP))) (aK (aT 2 cy (aK (aT 1 dJ (aK (gLC ["_law_there"] [10] (gI d_ (aN 12)) (ggN 0) dB (bg dIx (aN 1) (aN 0))) aP)) (aK (eU (aK (gC (.int 1)) (aK (bK iI (aK (aN 12) aP)) aP))) aP))) aP)))) (jt (gB (bg fX (aN 13) (gIf (gB (bg gY (aN 11) (aN 5))) (aT 2 pO (aK (aN 3) (aK (aN 5) aP))) (bg dIx (aN 10) (aN 11))))) (cu (gC (.bl false))) fy))))
noncomputable def Fj:DE->Option RD:=(bP (dR 12 (aT 2 gO (aK (aN 3) (aK (aN 11) aP)))) (bP (dR 13 (aT 2 cH (aK (eU (aK (gC (.int 1)) (aK (gC (.int 1)) aP))) (aK (aT 2 cy (aK (aT 1 dJ (aK (gLC ["_law_there"] [10] (gI d_ (aN 12)) (ggN 0) dB (bg dIx (aN 1) (aN 0))) aP)) (aK (eU (aK (gC (.int 1)) (aK (bK iI (aK (aN 12) aP)) aP))) aP))) aP)))) (jt (gB (bg fX (aN 13) (gIf (gB (bg gY (aN 11) (aN 5))) (aT 2 pO (aK (aN 3) (aK (aN 5) aP))) (bg dIx (aN 10) (aN 11))))) (cu (gC (.bl false))) fy)))
theorem wx:aS 1=.tup [.int 1,.int 1]:=rfl
theorem HW:fX (.tup [.int 1,.int 1]) (.tup [.int 1,.int 1])=some (.bl false):=by
 have:=Jz 1 1
 rw[decide_eq_true rfl]at this
 exact this
theorem J6 {x:Rat}{e:Nat}(h:0<x)(b:bt x e):bt x⁻¹ e:=by
 have ei:=BJ h
 unfold aS at ei
 injection ei with ei
 injection ei with h1 h2
 injection h2 with h2 _
 injection h1 with h1
 injection h2 with h2
 have hn:0<=x.num:=Rat.num_nonneg.mpr (by grind)
 constructor
 ·rw[h1,Int.natAbs_natCast];exact b.2
 ·have:=b.1;omega
theorem Good.J7 {w:Web}(g:Good w)(tr:w.2.length+1=w.1){b:Nat}(hb:b<w.1):(meL w b).map aS=((List.range w.1).map λ a=>mn w.2 b a).map λ z=>.tup [.int z,.int 1]:=by
 unfold meL
 rw[List.map_map,List.map_map]
 refine aE λ i hi=>?_
 show aS (meQ w b i)=.tup [.int (mn w.2 b i),.int 1]
 rw[g.Lr tr hb (ay.mp hi)]
 rfl
section
variable {w wt:Web}(g:Good w)
theorem Good.LP (gt:Good wt)(tr:wt.2.length+1=wt.1)(x0 x1 x2 x3 x5 x6 x7 x8 x9 x10 x11 x12 x13:Option Dt):n6 [x0,x1,x2,x3,some (bf wt),x5,x6,x7,x8,x9,x10,x11,x12,x13]=some (.nx [x0,x1,x2,x3,some (bf wt),x5,x6,x7,x8,x9,x10,x11,x12,x13]):=by
 have z:0<wt.1:=by have:=gt.two;omega
 have h8:=gt.da
 have c1:fi [bf wt,.int 0]=some (.tup ((meL wt 0).map aS)):=CL gt z
 have c2:j_ [bf wt,.int 0]=some (.tup (((List.range wt.1).map λ a=>mn wt.2 0 a).map .int)):=ET gt tr z
 have ne:=Ll (meL wt 0) (meL wt 0)
 rw[decide_eq_true rfl]at ne
 have mi:=gt.J7 tr z
 have lc:=cP (enc:=Dt.int) (gg:=ggN 0) (ge:=eU (aK (aN 0) (aK (gC (.int 1)) aP))) (δc:=[none]) (δa:=λ z=>[some (.int z)]) (enc':=λ z=>Dt.tup [.int z,.int 1]) ((List.range wt.1).map λ a=>mn wt.2 0 a) λ z _=>⟨rfl,by simp⟩
 rw[<-mi]at lc
 have hn:(((List.range wt.1).map λ a=>mn wt.2 0 a).map Dt.int).length<=1000:=by simp;omega
 generalize ((List.range wt.1).map λ a=>mn wt.2 0 a).map Dt.int=ms at *
 generalize (meL wt 0).map aS=qs at *
 generalize bf wt=ww at *
 simp[n6,c1,c2,lc,hn,ne]
include g
theorem Good.HX:gw [bf w]=some (.tup ((cB w).map aS)):=by
 show(dW (bf w)).map _=_
 rw[iK g];rfl
theorem Good.HY {b:Nat}(hb:b<w.1):dIx (.tup ((cB w).map aS)) (aM b)=some (aS (piQ w b)):=getD_at (by rw[g.il];exact hb)
theorem Good.HZ {b:Nat}(hb:b<w.1):pO [bf w,aM b]=some (aS (piQ w b)⁻¹):=by
 show(dW (bf w)).bind (λ w=>(cw (aM b)).bind λ b=>if b<w.1 then some (aS (piQ w b)⁻¹) else none)=_
 rw[iK g,bH,aa,aa,ae hb]
theorem Good.LQ {b:Nat}(hb:b<w.1)(x0 x1 x2 x4 x6 x7 x8 x9 x10 x11 x12 x13:Option Dt):n7 [x0,x1,x2,some (bf w),x4,some (aM b),x6,x7,x8,x9,x10,x11,x12,x13]=some (.nx [x0,x1,x2,some (bf w),x4,some (aM b),x6,x7,x8,x9,x10,x11,x12,x13]):=by
 have c1:=g.HZ hb
 have c2:=g.HX
 have c3:=g.HY hb
 have c4:=Ak (J6 (g.Aj hb) (g.yQ hb)) (g.yQ hb) (by decide) (by decide)
 have p:=g.Aj hb
 rw[show(piQ w b)⁻¹*piQ w b=1 from Rat.inv_mul_cancel _ (by grind),wx]at c4
 have c4:cy [aS (piQ w b)⁻¹,aS (piQ w b)]=some (.tup [.int 1,.int 1]):=c4
 have c5:=CL g hb
 have c6:kg [bf w,aM b,.tup ((meL w b).map aS)]=some (.bl true):=by
  show(dW (bf w)).bind (λ w'=>(cw (aM b)).bind λ b'=>(dQt (.tup ((meL w b).map aS))).bind λ l=>if b'<w'.1/\l.length=w'.1 then some (Dt.bl (decide (l=meL w' b'))) else none)=_
  rw[iK g,bH,GI,aa,aa,aa,ae ⟨hb,wq w b⟩,decide_eq_true rfl]
 have ne:=HW
 generalize (meL w b).map aS=qs at *
 generalize (cB w).map aS=ss at *
 generalize aS (piQ w b)⁻¹=e1 at *
 generalize aS (piQ w b)=e2 at *
 generalize bf w=ww at *
 generalize aM b=nb at *
 simp[n7,c1,c2,c3,c4,c5,c6,ne]
theorem Good.H_ {p a b:Nat}(hp:p<w.1)(ha:a<w.1)(hb:b<w.1)(ne:a≠b):oq [bf w,aM p,aM a,aM b]=some (aS (ahQ w a b p)):=by
 show(dW (bf w)).bind (λ w=>(cw (aM p)).bind λ p=>(cw (aM a)).bind λ a=>(cw (aM b)).bind λ b=>if p<w.1/\a<w.1/\b<w.1/\a≠b then some (aS (ahQ w a b p)) else none)=_
 rw[iK g,bH,bH,bH,aa,aa,aa,aa,ae ⟨hp,ha,hb,ne⟩]
theorem Good.LR {p a b:Nat}(hp:p<w.1)(ha:a<w.1)(hb:b<w.1)(ne:a≠b)(x0 x1 x2 x4 x5 x9 x10 x11 x12 x13:Option Dt):n8 [x0,x1,x2,some (bf w),x4,x5,some (aM p),some (aM a),some (aM b),x9,x10,x11,x12,x13]=some (.nx [x0,x1,x2,some (bf w),x4,x5,some (aM p),some (aM a),some (aM b),x9,x10,x11,x12,x13]):=by
 have c1:=g.H_ hp ha hb ne
 have c2:=g.H_ hp hb ha (Ne.symm ne)
 have c3:=Fh (g.HV ha ne p) (g.HV hb (Ne.symm ne) p) (by decide) (by decide)
 rw[g.GR ha hb ne hp,wx]at c3
 have c3:cH [aS (ahQ w a b p),aS (ahQ w b a p)]=some (.tup [.int 1,.int 1]):=c3
 have n1:=HW
 generalize aS (ahQ w a b p)=e1 at *
 generalize aS (ahQ w b a p)=e2 at *
 generalize bf w=ww at *
 generalize aM p=np at *
 generalize aM a=na at *
 generalize aM b=nb at *
 simp[n8,c1,c2,c3,n1]
theorem Good.Fl {i:Nat}:(drL w i).sum=j8 w i*(((2*w.2.length:Nat):Rat))⁻¹:=by
 unfold drL j8
 rw[Rat.mul_comm,<-jB]
 refine dS λ j hj=>?_
 rw[g.BH (ay.mp hj)]
 unfold fr
 rw[Rat.divInt_eq_div,Rat.div_def]
 show((dg w j:Int):Rat)*((((2*w.2.length:Nat):Int):Rat))⁻¹*meQ w j i=_
 rw[Rat.intCast_natCast,Rat.intCast_natCast]
 grind
theorem Good.LS {p:Nat}(hp:p<w.1)(x0 x1 x2 x4 x5 x7 x8 x9 x10 x11 x12 x13:Option Dt):n9 [x0,x1,x2,some (bf w),x4,x5,some (aM p),x7,x8,x9,x10,x11,x12,x13]=some (.nx [x0,x1,x2,some (bf w),x4,x5,some (aM p),x7,x8,some (.lst ((drL w p).map aS)),x10,x11,x12,x13]):=by
 have h8:=g.da
 have hr:pz [aM w.1]=some ((List.range w.1).map aM):=gN (n:=w.1) (by omega)
 have ix:dIx (bf w) (.int 0)=some (aM w.1):=rfl
 have lc:=cP (enc:=aM) (gg:=ggN 0) (ge:=aT 2 cy (aK (bg dIx (aT 1 gw (aK (aN 2) aP)) (aN 0)) (aK (bg dIx (aT 2 fi (aK (aN 2) (aK (aN 0) aP))) (aN 1)) aP))) (δc:=[none,some (aM p),some (bf w)]) (δa:=λ j=>[some (aM j),some (aM p),some (bf w)]) (enc':=λ j=>aS (piQ w j*meQ w j p)) (List.range w.1) λ j hj=>⟨rfl,by
  have hj:=ay.mp hj
  have c2:=g.HX
  have c3:=g.HY hj
  have c5:=CL g hj
  have c6:=BK (w:=w) (b:=j) hp
  have tk:=Ak (g.yQ hj) (g.BG hj p) (by decide) (by decide)
  have tk:cy [aS (piQ w j),aS (meQ w j p)]=some (aS (piQ w j*meQ w j p)):=tk
  generalize (meL w j).map aS=ms at *
  generalize (cB w).map aS=ss at *
  generalize aS (piQ w j*meQ w j p)=res at *
  generalize aS (meQ w j p)=eq at *
  generalize aS (piQ w j)=ep at *
  generalize bf w=ww at *
  generalize aM j=nj at *
  generalize aM p=np at *
  simp[c2,c3,c5,c6,tk]⟩
 have lr:(List.range w.1).map (λ j=>aS (piQ w j*meQ w j p))=(drL w p).map aS:=by unfold drL;rw[List.map_map];rfl
 rw[lr]at lc
 have hn:((List.range w.1).map aM).length<=1000:=by simp;omega
 generalize (drL w p).map aS=dd at *
 generalize (List.range w.1).map aM=rs at *
 generalize bf w=ww at *
 generalize aM w.1=nw at *
 generalize aM p=np at *
 simp[n9,ix,hr,lc,hn]
theorem Good.J8 {p:Nat}(hp:p<w.1)(x0 x1 x2 x4 x5 x6 x7 x8 x10 x11 x12 x13:Option Dt):n10 [x0,x1,x2,some (bf w),x4,x5,x6,x7,x8,some (.lst ((drL w p).map aS)),x10,x11,x12,x13]=some (.nx [x0,x1,x2,some (bf w),x4,x5,x6,x7,x8,some (.lst ((drL w p).map aS)),x10,x11,x12,x13]):=by
 have tt:=Al (g.Fg p)
 have same:(drL w p).sum=(drL w 0).sum:=by rw[g.Fl,g.Fl,g.EL hp]
 rw[same]at tt
 have tt:dJ [.lst ((drL w p).map aS)]=some (aS (drL w 0).sum):=tt
 have dr:qW [bf w]=some (aS (drL w 0).sum):=by
  show(dW (bf w)).map _=_
  rw[iK g];rfl
 have ne:=Jz (drL w 0).sum (drL w 0).sum
 rw[decide_eq_true rfl]at ne
 generalize (drL w p).map aS=dd at *
 generalize aS (drL w 0).sum=res at *
 generalize bf w=ww at *
 simp[n10,tt,dr,ne]
theorem Good.J9 {b:Nat}(hb:b<w.1)(x0 x1 x2 x4 x6 x7 x8 x9 x10 x11 x12 x13:Option Dt):n11 [x0,x1,x2,some (bf w),x4,some (aM b),x6,x7,x8,x9,x10,x11,x12,x13]=some (.nx [x0,x1,x2,some (bf w),x4,some (aM b),x6,x7,x8,x9,some (.tup ((meL w b).map aS)),x11,x12,x13]):=by
 have c5:=CL g hb
 generalize (meL w b).map aS=ms at *
 generalize bf w=ww at *
 generalize aM b=nb at *
 simp[n11,c5]
omit g in
noncomputable def nrL (w:Web)(i:Nat):List Nat:=(List.range w.1).filter λ o=>decide (eX i o∈w.2)
theorem Good.Am {i o:Nat}:o∈nrL w i↔o∈nb w.2 i:=by
 unfold nrL
 rw[List.mem_filter,ay,decide_eq_true_iff,<-g.sV]
 exact⟨λ h=>h.2,λ h=>⟨(g.cq h).1,h⟩⟩
theorem Good.Fm (i:Nat)(f:Nat->Rat):((nrL w i).map f).sum=((nb w.2 i).map f).sum:=by
 rw[<-vY (n:=w.1) f (nrL w i) (List.nodup_range.filter _) (λ x hx=>ay.mp (List.mem_filter.mp hx).1),<-vY (n:=w.1) f _ (g.uS i) λ x hx=>(g.cq hx).1]
 refine Dt0.cN λ j _=>?_
 by_cases c:j∈nb w.2 i
 ·rw[ae c,ae (g.Am.mpr c)]
 ·rw[af c,af λ z=>c (g.Am.mp z)]
theorem Good.J_ (i:Nat):(nrL w i).length=dg w i:=by
 have:=g.Fm i λ _=>1
 rw[el,el]at this
 have h:((nrL w i).length:Rat)=(dg w i:Rat):=by unfold dg;grind
 exact Rat.natCast_inj.mp h
theorem Good.loc {b i:Nat}(hb:b<w.1)(hi:i<w.1):1+((nrL w i).map (meQ w b)).sum*Rat.divInt 1 (dg w i)=if i=b then (piQ w b)⁻¹ else meQ w b i:=by
 have dp:0<dg w i:=g.vU i hi
 have dq:(dg w i:Rat)≠0:=by
  have:(0:Rat)<(dg w i:Rat):=Rat.natCast_pos.mpr dp
  grind
 have e1:Rat.divInt 1 (dg w i)=(dg w i:Rat)⁻¹:=by rw[Rat.divInt_eq_div,Rat.div_def,Rat.intCast_natCast];show(1:Rat)*_=_;grind
 have cc:=Rat.mul_inv_cancel _ dq
 rw[g.Fm,e1]
 by_cases c:i=b
 ·subst c
  rw[ae rfl,g.BH hi]
  have mb:=g.Bt hi
  have e2:(fr (dg w i) (2*w.2.length))⁻¹=((2*w.2.length:Nat):Rat)*(dg w i:Rat)⁻¹:=by
   unfold fr
   rw[Rat.divInt_eq_div,Rat.div_def,Rat.intCast_natCast,Rat.intCast_natCast,Rat.inv_mul_rev,Rat.inv_inv]
  rw[e2,<-mb]
  generalize ((nb w.2 i).map (meQ w i)).sum=x at *
  grind
 ·rw[af c]
  have me:=g.EJ hb hi c
  generalize ((nb w.2 i).map (meQ w b)).sum=x at *
  generalize meQ w b i=y at *
  grind
theorem Good.Hd {b i:Nat}(hb:b<w.1)(hi:i<w.1)(x0 x1 x2 x4 x6 x7 x8 x9 x12 x13:Option Dt):∃ y12 y13,Fj [x0,x1,x2,some (bf w),x4,some (aM b),x6,x7,x8,x9,some (.tup ((meL w b).map aS)),some (aM i),x12,x13]=some (.nx [x0,x1,x2,some (bf w),x4,some (aM b),x6,x7,x8,x9,some (.tup ((meL w b).map aS)),some (aM i),y12,y13]):=by
 have h8:=g.da
 have dp:0<dg w i:=g.vU i hi
 have d7:=g.om i
 have nr:gO [bf w,aM i]=some (.lst ((nrL w i).map aM)):=by
  show(dW (bf w)).bind (λ w=>(cw (aM i)).map λ p=>Dt.lst (((List.range w.1).filter λ o=>decide (eX p o∈w.2)).map aM))=_
  rw[iK g,bH];rfl
 have nl:=g.J_ i
 have lc:=cP (enc:=aM) (gg:=ggN 0) (ge:=bg dIx (aN 1) (aN 0)) (δc:=[none,some (.tup ((meL w b).map aS))]) (δa:=λ j=>[some (aM j),some (.tup ((meL w b).map aS))]) (enc':=λ j=>aS (meQ w b j)) (nrL w i) λ j hj=>⟨rfl,by
  have c6:=BK (w:=w) (b:=b) (g.cq (g.Am.mp hj)).1
  generalize (meL w b).map aS=ms at *
  generalize aS (meQ w b j)=eq at *
  generalize aM j=nj at *
  simp[c6]⟩
 have lr:(nrL w i).map (λ j=>aS (meQ w b j))=((nrL w i).map (meQ w b)).map aS:=by rw[List.map_map];rfl
 rw[lr]at lc
 obtain⟨t1,t2⟩:=BC (f:=200) (l:=(nrL w i).map (meQ w b)) (λ x hx=>by obtain⟨j,_,rfl⟩:=aA.mp hx;exact g.BG hb j) (by decide) (by rw[ah,nl];omega)
 have tt:=Al t1
 have tt:dJ [.lst (((nrL w i).map (meQ w b)).map aS)]=some (aS ((nrL w i).map (meQ w b)).sum):=tt
 rw[ah,nl]at t2
 have bs:bt ((nrL w i).map (meQ w b)).sum 1408:=qV t2 (by omega)
 have ti:=Cv (tG bs (by decide)) (show 0<dg w i/\dg w i<=1000 by omega)
 have ti:cy [aS ((nrL w i).map (meQ w b)).sum,.tup [.int 1,aM (dg w i)]]=some (aS (((nrL w i).map (meQ w b)).sum*Rat.divInt 1 (dg w i))):=ti
 have bd:bt (Rat.divInt 1 (dg w i)) 10:=by
  obtain⟨d1,d2⟩:=E_ (a:=1) (b:=(dg w i:Int)) (by omega)
  have:(2:Nat) ^ 10=1024:=rfl
  unfold bt
  rw[this]
  constructor
  ·have:(1:Int).natAbs=1:=rfl
   omega
  ·omega
 have pl:=Fh J3 (Fc bs bd) (by decide) (by decide)
 rw[g.loc hb hi,wx]at pl
 have pl:cH [.tup [.int 1,.int 1],aS (((nrL w i).map (meQ w b)).sum*Rat.divInt 1 (dg w i))]=some (aS (if i=b then (piQ w b)⁻¹ else meQ w b i)):=pl
 have ne:=Jz (if i=b then (piQ w b)⁻¹ else meQ w b i) (if i=b then (piQ w b)⁻¹ else meQ w b i)
 rw[decide_eq_true rfl]at ne
 have eq:gY (aM i) (aM b)=some (.bl (i==b)):=by show some (Dt.bl ((i:Int)==(b:Int)))=_;rw[iM]
 have bk:=g.HZ hb
 have ix:=BK (w:=w) (b:=b) hi
 have hn:((nrL w i).map aM).length<=1000:=by rw[ah,nl];omega
 have ln:iI [.lst ((nrL w i).map aM)]=some (aM (dg w i)):=by show some (Dt.int (((nrL w i).map aM).length:Int))=_;rw[ah,nl]
 refine⟨some (.lst ((nrL w i).map aM)),some (aS (if i=b then (piQ w b)⁻¹ else meQ w b i)),?_⟩
 generalize aS (((nrL w i).map (meQ w b)).sum*Rat.divInt 1 (dg w i))=e3 at *
 generalize aS ((nrL w i).map (meQ w b)).sum=e4 at *
 generalize ((nrL w i).map (meQ w b)).map aS=l5 at *
 generalize (nrL w i).map aM=l6 at *
 generalize (meL w b).map aS=ms at *
 generalize aM (dg w i)=nd at *
 by_cases c:i=b
 ·rw[ae c]at *
  have ck:(i==b)=true:=by simpa using c
  rw[ck]at eq
  generalize aS (piQ w b)⁻¹=e1 at *
  generalize bf w=ww at *
  generalize aM i=ni at *
  generalize aM b=nb at *
  simp[Fj,nr,lc,hn,tt,ln,ti,pl,eq,bk,ne]
 ·rw[af c]at *
  have ck:(i==b)=false:=by simpa using c
  rw[ck]at eq
  generalize aS (meQ w b i)=e1 at *
  generalize bf w=ww at *
  generalize aM i=ni at *
  generalize aM b=nb at *
  simp[Fj,nr,lc,hn,tt,ln,ti,pl,eq,ix,ne]
theorem Good.He {b:Nat}(hb:b<w.1)(x0 x1 x2 x4 x6 x7 x8 x9:Option Dt):∀ (l:List Nat) (x11 x12 x13:Option Dt),(∀ p∈l,p<w.1) ->
  ∃ p11 p12 p13,mC (ggN 11) Fj [x0,x1,x2,some (bf w),x4,some (aM b),x6,x7,x8,x9,some (.tup ((meL w b).map aS)),x11,x12,x13] (l.map aM)=some (.nx [x0,x1,x2,some (bf w),x4,some (aM b),x6,x7,x8,x9,some (.tup ((meL w b).map aS)),p11,p12,p13]):=by
 intro l
 induction l with
 | nil=>intro x11 x12 x13 _;exact⟨_,_,_,rfl⟩
 | cons t r ih =>
  intro x11 x12 x13 h
  obtain⟨y12,y13,e1⟩:=g.Hd hb (h t ai) x0 x1 x2 x4 x6 x7 x8 x9 x12 x13
  obtain⟨p11,p12,p13,e⟩:=ih (some (aM t)) y12 y13 λ u hu=>h u (ak _ hu)
  refine⟨p11,p12,p13,?_⟩
  show(Fj [x0,x1,x2,some (bf w),x4,some (aM b),x6,x7,x8,x9,some (.tup ((meL w b).map aS)),some (aM t),x12,x13]).bind _=_
  rw[e1]
  exact e
theorem Good.Ka {b:Nat}(hb:b<w.1)(x0 x1 x2 x4 x6 x7 x8 x9 x11 x12 x13:Option Dt):∃ p11 p12 p13,n12 [x0,x1,x2,some (bf w),x4,some (aM b),x6,x7,x8,x9,some (.tup ((meL w b).map aS)),x11,x12,x13]=some (.nx [x0,x1,x2,some (bf w),x4,some (aM b),x6,x7,x8,x9,some (.tup ((meL w b).map aS)),p11,p12,p13]):=by
 obtain⟨p11,p12,p13,e⟩:=g.He hb x0 x1 x2 x4 x6 x7 x8 x9 (List.range w.1) x11 x12 x13 λ p h=>ay.mp h
 have h8:=g.da
 have hr:pz [aM w.1]=some ((List.range w.1).map aM):=gN (n:=w.1) (by omega)
 refine⟨p11,p12,p13,?_⟩
 show(pz [aM w.1]).bind _=_
 rw[hr]
 exact e
noncomputable def nT:DE->Option RD:=bP n6 (bP n7 (bP n8 (bP n9 (bP n10 (bP n11 n12)))))
theorem Good.LU (gt:Good wt)(tr:wt.2.length+1=wt.1){b p a c:Nat}(hb:b<w.1)(hp:p<w.1)(ha:a<w.1)(hc:c<w.1)(ne:a≠c)(x0 x1 x2 x9 x10 x11 x12 x13:Option Dt) :
  ∃ p9 p10 p11 p12 p13,nT [x0,x1,x2,some (bf w),some (bf wt),some (aM b),some (aM p),some (aM a),some (aM c),x9,x10,x11,x12,x13]=some (.nx [x0,x1,x2,some (bf w),some (bf wt),some (aM b),some (aM p),some (aM a),some (aM c),p9,p10,p11,p12,p13]):=by
 have e6:=gt.LP tr x0 x1 x2 (some (bf w)) (some (aM b)) (some (aM p)) (some (aM a)) (some (aM c)) x9 x10 x11 x12 x13
 have e7:=g.LQ hb x0 x1 x2 (some (bf wt)) (some (aM p)) (some (aM a)) (some (aM c)) x9 x10 x11 x12 x13
 have e8:=g.LR hp ha hc ne x0 x1 x2 (some (bf wt)) (some (aM b)) x9 x10 x11 x12 x13
 have e9:=g.LS hp x0 x1 x2 (some (bf wt)) (some (aM b)) (some (aM a)) (some (aM c)) x9 x10 x11 x12 x13
 have e10:=g.J8 hp x0 x1 x2 (some (bf wt)) (some (aM b)) (some (aM p)) (some (aM a)) (some (aM c)) x10 x11 x12 x13
 have e11:=g.J9 hb x0 x1 x2 (some (bf wt)) (some (aM p)) (some (aM a)) (some (aM c)) (some (.lst ((drL w p).map aS))) x10 x11 x12 x13
 obtain⟨p11,p12,p13,e12⟩:=g.Ka hb x0 x1 x2 (some (bf wt)) (some (aM p)) (some (aM a)) (some (aM c)) (some (.lst ((drL w p).map aS))) x11 x12 x13
 refine⟨some (.lst ((drL w p).map aS)),some (.tup ((meL w b).map aS)),p11,p12,p13,?_⟩
 unfold nT
 simp only[Le,e6,e7,e8,e9,e10,e11,e12,aa]
end
end L2
namespace K33
open PySem PySem.Spec PyProof.Rows L2 Zp
noncomputable def top (i:Nat):Stmt:=PySem.Challenge.pw_treewalkers_k33_whole_means.main.body.getD i (.Pass ⟨0,0,0,0⟩)
noncomputable abbrev kl:Stmt:=top 2
noncomputable abbrev eQ:Stmt:=top 3
noncomputable abbrev gz:Stmt:=top 4
noncomputable abbrev fk:Stmt:=top 5
noncomputable abbrev km:Stmt:=top 6
noncomputable abbrev wy:Stmt:=top 7
noncomputable abbrev qX:Stmt:=top 8
noncomputable abbrev qY:Stmt:=top 9
noncomputable abbrev ou:Stmt:=top 10
noncomputable abbrev l_:Stmt:=top 11
noncomputable abbrev kn:Stmt:=top 21
noncomputable abbrev ow:Stmt:=top 22
noncomputable abbrev ja:Stmt:=top 23
noncomputable abbrev ma:Stmt:=top 24
noncomputable abbrev jb:Stmt:=top 25
noncomputable abbrev fP:Stmt:=top 26
noncomputable abbrev gA:Stmt:=top 27
noncomputable abbrev md:Stmt:=top 28
noncomputable abbrev ox:Stmt:=top 29
noncomputable abbrev jc:Stmt:=top 30
noncomputable abbrev gD:Stmt:=top 31
noncomputable abbrev jd:Stmt:=top 32
noncomputable abbrev hJ:Stmt:=top 33
noncomputable abbrev hU:Stmt:=top 34
noncomputable abbrev mf:Stmt:=top 35
noncomputable abbrev qZ:Stmt:=top 37
noncomputable abbrev ko:Stmt:=top 39
noncomputable abbrev kq:Stmt:=top 40
noncomputable abbrev q_:Stmt:=top 41
noncomputable abbrev kr:Stmt:=top 42
noncomputable abbrev wz:Stmt:=top 43
noncomputable abbrev fq:Stmt:=top 44
noncomputable abbrev ra:Stmt:=top 45
noncomputable abbrev rb:Stmt:=top 46
noncomputable abbrev hV:Stmt:=top 48
noncomputable abbrev ft:Stmt:=top 49
noncomputable abbrev ku:Stmt:=top 50
noncomputable abbrev fQ:Stmt:=top 52
noncomputable abbrev kx:Stmt:=top 53
noncomputable abbrev je:Stmt:=top 54
noncomputable abbrev mh:Stmt:=top 55
noncomputable abbrev jg:Stmt:=top 56
noncomputable abbrev hW:Stmt:=top 57
noncomputable abbrev hX:Stmt:=top 58
noncomputable abbrev jh:Stmt:=top 59
noncomputable abbrev iP:Stmt:=top 60
noncomputable abbrev ky:Stmt:=top 61
noncomputable abbrev uY:Stmt:=top 62
theorem yR:bj ["thing"] ["thing"] (aX kl):=⟨rfl,rfl,rfl,by decide +kernel,rfl,by decide +kernel,by decide +kernel⟩
theorem fR:bj ["a","b"] ["a","b"] (aX eQ):=⟨rfl,rfl,rfl,by decide +kernel,rfl,by decide +kernel,by decide +kernel⟩
theorem iQ:bj ["thing","top","bottom"] ["thing"] (aX gz):=⟨rfl,rfl,rfl,by decide +kernel,rfl,by decide +kernel,by decide +kernel⟩
theorem pQ:bj ["thing","many"] ["thing","many"] (aX fk):=⟨rfl,rfl,rfl,by decide +kernel,rfl,by decide +kernel,by decide +kernel⟩
theorem qk:bj ["top","bottom","divisor"] ["top","bottom"] (aX km):=⟨rfl,rfl,rfl,by decide +kernel,rfl,by decide +kernel,by decide +kernel⟩
theorem Hf:bj ["one","other"] ["one","other"] (aX wy):=⟨rfl,rfl,rfl,by decide +kernel,rfl,by decide +kernel,by decide +kernel⟩
theorem Fn:bj ["one","other"] ["one","other"] (aX qX):=⟨rfl,rfl,rfl,by decide +kernel,rfl,by decide +kernel,by decide +kernel⟩
theorem oy:bj ["fractions","whole","one"] ["fractions"] (aX qY):=⟨rfl,rfl,rfl,by decide +kernel,rfl,by decide +kernel,by decide +kernel⟩
theorem gf:bj ["rows","table","former","at","lead"] ["rows"] (aX ou):=⟨rfl,rfl,rfl,by decide +kernel,rfl,by decide +kernel,by decide +kernel⟩
theorem An:bj ["row","lead","at","former"] ["row","lead","at","former"] (aX l_):=⟨rfl,rfl,rfl,by decide +kernel,rfl,by decide +kernel,by decide +kernel⟩
theorem yS:bj ["many","thing"] ["many","thing"] (aX kn):=⟨rfl,rfl,rfl,by decide +kernel,rfl,by decide +kernel,by decide +kernel⟩
theorem pR:bj ["many","thing","a","b"] ["many","thing"] (aX ow):=⟨rfl,rfl,rfl,by decide +kernel,rfl,by decide +kernel,by decide +kernel⟩
theorem wG:bj ["things"] ["things"] (aX ja):=⟨rfl,rfl,rfl,by decide +kernel,rfl,by decide +kernel,by decide +kernel⟩
theorem mX:bj ["ties","place","lesser","greater"] ["ties","place"] (aX ma):=⟨rfl,rfl,rfl,by decide +kernel,rfl,by decide +kernel,by decide +kernel⟩
theorem dN:bj ["ties","start","found","edge","beyond","place","near"] ["ties","start"] (aX jb):=⟨rfl,rfl,rfl,by decide +kernel,rfl,by decide +kernel,by decide +kernel⟩
theorem qG:bj ["ties","far","here"] ["ties","far","here"] (aX fP):=⟨rfl,rfl,rfl,by decide +kernel,rfl,by decide +kernel,by decide +kernel⟩
theorem iR:bj ["ties","a","b","tie","others"] ["ties","a","b"] (aX gA):=⟨rfl,rfl,rfl,by decide +kernel,rfl,by decide +kernel,by decide +kernel⟩
theorem mY:bj ["web","many","ties"] ["web"] (aX md):=⟨rfl,rfl,rfl,by decide +kernel,rfl,by decide +kernel,by decide +kernel⟩
theorem pS:bj ["thing","many","ties"] ["thing"] (aX ox):=⟨rfl,rfl,rfl,by decide +kernel,rfl,by decide +kernel,by decide +kernel⟩
theorem wH:bj ["thing"] ["thing"] (aX jc):=⟨rfl,rfl,rfl,by decide +kernel,rfl,by decide +kernel,by decide +kernel⟩
theorem tH:bj ["web","thing"] ["web","thing"] (aX gD):=⟨rfl,rfl,rfl,by decide +kernel,rfl,by decide +kernel,by decide +kernel⟩
theorem wI:bj ["a","b"] ["a","b"] (aX jd):=⟨rfl,rfl,rfl,by decide +kernel,rfl,by decide +kernel,by decide +kernel⟩
theorem uh:bj ["web","a","b"] ["web","a","b"] (aX hJ):=⟨rfl,rfl,rfl,by decide +kernel,rfl,by decide +kernel,by decide +kernel⟩
theorem ui:bj ["thing"] ["thing"] (aX hU):=⟨rfl,rfl,rfl,by decide +kernel,rfl,by decide +kernel,by decide +kernel⟩
theorem mZ:bj ["web","many","ties"] ["web"] (aX mf):=⟨rfl,rfl,rfl,by decide +kernel,rfl,by decide +kernel,by decide +kernel⟩
theorem Fo:bj ["web"] ["web"] (aX qZ):=⟨rfl,rfl,rfl,by decide +kernel,rfl,by decide +kernel,by decide +kernel⟩
theorem yT:bj ["web","given","added"] ["web","given","added"] (aX ko):=⟨rfl,rfl,rfl,by decide +kernel,rfl,by decide +kernel,by decide +kernel⟩
theorem fC:bj ["web","place","given","added","many","ties","row","near","other"] ["web","place","given","added"] (aX kq):=⟨rfl,rfl,rfl,by decide +kernel,rfl,by decide +kernel,by decide +kernel⟩
theorem Fp:bj ["web","goal"] ["web","goal"] (aX q_):=⟨rfl,rfl,rfl,by decide +kernel,rfl,by decide +kernel,by decide +kernel⟩
theorem ql:bj ["web","goal","thing","told"] ["web","goal","thing"] (aX kr):=⟨rfl,rfl,rfl,by decide +kernel,rfl,by decide +kernel,by decide +kernel⟩
theorem wJ:bj ["web","place","top","bottom"] ["web","place"] (aX wz):=⟨rfl,rfl,rfl,by decide +kernel,rfl,by decide +kernel,by decide +kernel⟩
theorem pT:bj ["web","one","other"] ["web","one","other"] (aX fq):=⟨rfl,rfl,rfl,by decide +kernel,rfl,by decide +kernel,by decide +kernel⟩
theorem Fq:bj ["web","place","one","other"] ["web","place","one","other"] (aX ra):=⟨rfl,rfl,rfl,by decide +kernel,rfl,by decide +kernel,by decide +kernel⟩
theorem Fs:bj ["web"] ["web"] (aX rb):=⟨rfl,rfl,rfl,by decide +kernel,rfl,by decide +kernel,by decide +kernel⟩
theorem uj:bj ["places"] ["places"] (aX hV):=⟨rfl,rfl,rfl,by decide +kernel,rfl,by decide +kernel,by decide +kernel⟩
theorem cx:bj ["tree","goal","many","ties","far","found","place","following"] ["tree","goal"] (aX ft):=⟨rfl,rfl,rfl,by decide +kernel,rfl,by decide +kernel,by decide +kernel⟩
theorem yU:bj ["tree","place"] ["tree","place"] (aX ku):=⟨rfl,rfl,rfl,by decide +kernel,rfl,by decide +kernel,by decide +kernel⟩
theorem qH:bj ["_law_script","_law_k"] ["_law_script","_law_k"] (aX fQ):=⟨rfl,rfl,rfl,by decide +kernel,rfl,by decide +kernel,by decide +kernel⟩
theorem fE:bj ["_law_cell","_law_number","_law_j","_law_mixed"] ["_law_cell"] (aX kx):=⟨rfl,rfl,rfl,by decide +kernel,rfl,by decide +kernel,by decide +kernel⟩
theorem oz:bj ["_law_pot_here","_law_far","_law_found"] ["_law_pot_here","_law_far"] (aX je):=⟨rfl,rfl,rfl,by decide +kernel,rfl,by decide +kernel,by decide +kernel⟩
theorem kz:bj ["_law_top","_law_bottom","_law_one","_law_other"] ["_law_top","_law_bottom"] (aX mh):=⟨rfl,rfl,rfl,by decide +kernel,rfl,by decide +kernel,by decide +kernel⟩
theorem wK:bj ["_law_one","_law_other"] ["_law_one","_law_other"] (aX jg):=⟨rfl,rfl,rfl,by decide +kernel,rfl,by decide +kernel,by decide +kernel⟩
theorem uk:bj ["_law_one","_law_other"] ["_law_one","_law_other"] (aX hW):=⟨rfl,rfl,rfl,by decide +kernel,rfl,by decide +kernel,by decide +kernel⟩
theorem gE:bj ["_law_some","_law_found","_law_one"] ["_law_some"] (aX hX):=⟨rfl,rfl,rfl,by decide +kernel,rfl,by decide +kernel,by decide +kernel⟩
theorem wL:bj ["_law_web_here","_law_place"] ["_law_web_here","_law_place"] (aX jh):=⟨rfl,rfl,rfl,by decide +kernel,rfl,by decide +kernel,by decide +kernel⟩
theorem bV:bj ["_law_pot_here","_law_most","_law_thick","_law_many","_law_shape","_law_extra","_law_left","_law_called","_law_ties","_law_place","_law_drawn_one","_law_turn","_law_one","_law_other"] ["_law_pot_here","_law_most","_law_thick"] (aX iP):=⟨rfl,rfl,rfl,by decide +kernel,rfl,by decide +kernel,by decide +kernel⟩
theorem qo:bj ["_law_pot_here","_law_web_here","_law_a"] ["_law_pot_here","_law_web_here"] (aX ky):=⟨rfl,rfl,rfl,by decide +kernel,rfl,by decide +kernel,by decide +kernel⟩
theorem fS:bj ["_law_script","_law_k","_law_pot_here","_law_web_here","_law_tree","_law_goal","_law_place","_law_one","_law_other","_law_some","_law_far","_law_here","_law_beside","_law_number"] ["_law_script"] (aX uY):=⟨rfl,rfl,rfl,by decide +kernel,rfl,by decide +kernel,by decide +kernel⟩
set_option genInjectivity false in
set_option genSizeOf false in
structure FnT (K:PySem.W.Frag)(mg:Str->Option Value)(n:Str)(s:Stmt)(ps:List Str) where
 f:Addr
 fd:FuncData
 F:Fun K n n s f fd
 m:mg n=some (.ref f)
 b:Binds K fd ps []
theorem dC {X:Cx}{e:Expr}{es:List Expr}{pos p:Pos}{x:Str}{st:Stmt}{k n:Nat}{ps:List Str}{fD:List Dt->Option Dt}{gs:DE->Option (List Dt)}(t:FnT X.K X.mg x st ps)(F:bQ X.prog X.w X.K X.mg X.base CX0 k t.f t.fd ps (spD X.K n fD))(hr:fG k X.A)(ha:PDs X (e::es) gs)(hg:Gl X x:=by rfl)(hdb:(x==("__debug__":Str))=false:=by decide)(he:starEach (e::es) X.env=(false,eval e X.env)::starEach es X.env:=by rfl)(hpl:(backTo pos (starEach es X.env)).any (·.1)=false:=by rfl):PD X (.Call (.Name x p) (e::es) [] pos) (aT n fD gs):=Jd F hr t.m t.F.kp t.b ha hg hdb he hpl
set_option genInjectivity false in
set_option genSizeOf false in
structure Txt (K:PySem.W.Frag)(mg:Str->Option Value) where
 eA:FnT K mg "is_whole" kl ["thing"]
 cM:FnT K mg "common_divisor" eQ ["a","b"]
 fb:FnT K mg "is_fraction" gz ["thing"]
 dU:FnT K mg "are_fractions" fk ["thing","many"]
 eD:FnT K mg "fraction" km ["top","bottom"]
 tI:FnT K mg "plus" wy ["one","other"]
 oA:FnT K mg "times" qX ["one","other"]
 oB:FnT K mg "total" qY ["fractions"]
 lI:FnT K mg "solved" ou ["rows"]
 jN:FnT K mg "cleared" l_ ["row","lead","at","former"]
 fv:FnT K mg "is_place" kn ["many","thing"]
 lJ:FnT K mg "is_tie" ow ["many","thing"]
 gQ:FnT K mg "is_rising" ja ["things"]
 fF:FnT K mg "tied_to" ma ["ties","place"]
 eE:FnT K mg "distances" jb ["ties","start"]
 eG:FnT K mg "nearer_place" fP ["ties","far","here"]
 fc:FnT K mg "part_beyond" gA ["ties","a","b"]
 ip:FnT K mg "degrees" md ["web"]
 lK:FnT K mg "is_web" ox ["thing"]
 cJ:FnT K mg "check_web" jc ["thing"]
 bZ:FnT K mg "check_place" gD ["web","thing"]
 gR:FnT K mg "check_two" jd ["a","b"]
 fT:FnT K mg "check_ends" hJ ["web","a","b"]
 fU:FnT K mg "check_tree" hU ["thing"]
 jO:FnT K mg "is_tree" mf ["web"]
 ji:FnT K mg "still" qZ ["web"]
 gr:FnT K mg "balanced" ko ["web","given","added"]
 iS:FnT K mg "equation" kq ["web","place","given","added"]
 gF:FnT K mg "means" q_ ["web","goal"]
 iT:FnT K mg "is_means" kr ["web","goal","thing"]
 pU:FnT K mg "back" wz ["web","place"]
 dX:FnT K mg "chances_ahead" fq ["web","one","other"]
 mj:FnT K mg "ahead" ra ["web","place","one","other"]
 oC:FnT K mg "drawn" rb ["web"]
 fV:FnT K mg "steps_over" hV ["places"]
 dY:FnT K mg "counted_means" ft ["tree","goal"]
 iU:FnT K mg "means_to" ku ["tree","place"]
 cQ:FnT K mg "_law_cell_at" fQ ["_law_script","_law_k"]
 fw:FnT K mg "_law_pot" kx ["_law_cell"]
 aY:FnT K mg "_law_take" je ["_law_pot_here","_law_far"]
 iq:FnT K mg "_law_fr" mh ["_law_top","_law_bottom"]
 eJ:FnT K mg "_law_plus" jg ["_law_one","_law_other"]
 dO:FnT K mg "_law_times" hW ["_law_one","_law_other"]
 eS:FnT K mg "_law_total" hX ["_law_some"]
 gS:FnT K mg "_law_near" jh ["_law_web_here","_law_place"]
 cR:FnT K mg "_law_web" iP ["_law_pot_here","_law_most","_law_thick"]
 fx:FnT K mg "_law_two" ky ["_law_pot_here","_law_web_here"]
 BL:FnT K mg "law" uY ["_law_script"]
 bS:mg "isinstance"=none
 fe:mg "len"=none
 qp:mg "all"=none
 oD:mg "abs"=none
 oE:mg "min"=none
 oF:mg "max"=none
 yV:mg "sum"=none
 gT:mg "sorted"=none
 df:mg "tuple"=none
 uZ:mg "int"=none
 pV:mg "bool"=none
 cS:mg "range"=none
 tJ:mg "zip"=none
 u0:mg "set"=none
 m6:mg "list"=none
 eK:mg "enumerate"=none
 tK:Addr
 Ft:mg "ZERO"=some (.ref tK)
 Fu:RelV (.ref tK) (.ref tK)
 Fv:∀ H,Is K H (.ref tK) Be
 dZ:Tok
 kI:mg "FEWEST_PLACES"=some (.int 2 dZ)
 kJ:RelV (.int 2) (.int 2 dZ)
 kK:∀ H,Is K H (.int 2) (.int 2)
 fg:Tok
 mE:mg "MOST_PLACES"=some (.int 8 fg)
 mG:RelV (.int 8) (.int 8 fg)
 mH:∀ H,Is K H (.int 8) (.int 8)
section
variable {P:Program}{w:World}{K:PySem.W.Frag}{mg:Str->Option Value}{base:Heap}
theorem jj (T:Txt K mg):bQ P w K mg base CX0 1 T.eA.f T.eA.fd ["thing"] (spD K 1 eg):=T.eA.F.okD (g:=sF) yR (λ cdv A outer s H E hr=>(aZ (bB (sj (bG sD T.bS boot_isinstance (aL (dv 0) (aL (zP T.uZ boot_int) aR))) (uK (KU (bG sD T.bS boot_isinstance (aL (dv 0) (aL (zP T.pV boot_bool) aR))))))))) ya
theorem lL (T:Txt K mg):bQ P w K mg base CX0 2 T.fv.f T.fv.fd ["many","thing"] (spD K 2 f_):=T.fv.F.okD (g:=mQ) yS (λ cdv A outer s H E hr=>(aZ (bB (sj (dC T.eA (jj T) (hr.mono (by decide)) (aL (dv 1) aR)) (uK (Ge Jl Gj bD (dv 1) (dv 0))))))) yi
theorem CM (T:Txt K mg):bQ P w K mg base CX0 3 T.lJ.f T.lJ.fd ["many","thing"] (spD K 2 lz):=T.lJ.F.okD (g:=sM) pR (λ cdv A outer s H E hr=>(bc (gL (xG (qf (f7 (f9 (bG sD T.bS boot_isinstance (aL (dv 1) (aL (zP T.df boot_tuple) aR))))) (la (dh (qy (bq hr)) (bG kG T.fe PySem.boot_len (aL (dv 1) aR)) bD)))) (aZ (bB o9)) c_) (bc (lj (dv 1) (eV rfl (bC (bh (i:=2) pR.nd rfl (Or.inl rfl)) (bC (bh (i:=3) pR.nd rfl (Or.inl rfl)) dz))) d8) (aZ (bB (sj (dC T.fv (lL T) (hr.mono (by decide)) (aL (dv 0) (aL (dv 2) aR))) (sj (dC T.fv (lL T) (hr.mono (by decide)) (aL (dv 0) (aL (dv 3) aR))) (uK (si Gj (dv 2) (dv 3)))))))))) Ct
theorem wM (T:Txt K mg):bQ P w K mg base CX0 1 T.gQ.f T.gQ.fd ["things"] (spD K 1 gM):=T.gQ.F.okD (g:=lC) wG (λ cdv A outer s H E hr=>(aZ (bB (bG (Ep rfl) T.qp boot_all (aL (nF rfl (du (own:=["one","following"]) (fr:=[]) (ix:=[])) (HI true true T.tJ (aL (dv 0) (aL (ML (dv 0)) aR))) (λ _ _ _ _=>(eV rfl (bC (bh (i:=0) (by show((["one","following"]:List Str)++([]:List Str)).Nodup;decide +kernel) rfl (Or.inl rfl)) (bC (bh (i:=1) (by show((["one","following"]:List Str)++([]:List Str)).Nodup;decide +kernel) rfl (Or.inl rfl)) dz)))) (iG (cb (by decide) (cb (by decide) f6))) d8 (λ _ _ _ _=>fK) (λ _ _ _ _=>(si (K8 (GK hr)) (dv 0) (dv 1)))) aR))))) vN
theorem kA (T:Txt K mg):bQ P w K mg base CX0 1 T.fF.f T.fF.fd ["ties","place"] (spD K 2 eO):=T.fF.F.okD (g:=lV) mX (λ cdv A outer s H E hr=>(bc (xI (i:=2) mX.nd rfl (du (own:=["a","b"]) (fr:=["place"]) (ix:=[1])) (gZ (dv 0)) (λ _ _ _ _=>(eV rfl (bC (bh (i:=0) (by show((["a","b"]:List Str)++(["place"]:List Str)).Nodup;decide +kernel) rfl (Or.inl rfl)) (bC (bh (i:=1) (by show((["a","b"]:List Str)++(["place"]:List Str)).Nodup;decide +kernel) rfl (Or.inl rfl)) dz)))) (iG (cb (by decide) (cb (by decide) f6))) d8 (λ _ _ _ _=>(sx (dh (vH (bq hr)) (dv 1) (dv 2)))) (λ _ _ _ _=>(dv 0))) (bc (xI (i:=3) mX.nd rfl (du (own:=["a","b"]) (fr:=["place"]) (ix:=[1])) (gZ (dv 0)) (λ _ _ _ _=>(eV rfl (bC (bh (i:=0) (by show((["a","b"]:List Str)++(["place"]:List Str)).Nodup;decide +kernel) rfl (Or.inl rfl)) (bC (bh (i:=1) (by show((["a","b"]:List Str)++(["place"]:List Str)).Nodup;decide +kernel) rfl (Or.inl rfl)) dz)))) (iG (cb (by decide) (cb (by decide) f6))) d8 (λ _ _ _ _=>(sx (dh (vH (bq hr)) (dv 0) (dv 2)))) (λ _ _ _ _=>(dv 1))) (aZ (bB (iH lS T.df boot_tuple (aL (bG (Er srt lx sE) T.gT boot_sorted (aL (eY Ei (dv 2) (dv 3)) aR)) aR))))))) zZ
theorem tL (T:Txt K mg):bQ P w K mg base CX0 2 T.ip.f T.ip.fd ["web"] (spD K 1 hZ):=T.ip.F.okD (g:=pD) mY (λ cdv A outer s H E hr=>(bc (lj (dv 0) (eV rfl (bC (bh (i:=1) mY.nd rfl (Or.inl rfl)) (bC (bh (i:=2) mY.nd rfl (Or.inr rfl)) dz))) d8) (aZ (bB (nF rfl (du (own:=["place"]) (fr:=["ties"]) (ix:=[2])) (jY T.cS (aL (dv 1) aR)) (λ _ _ _ _=>(bh (i:=0) (by show((["place"]:List Str)++(["ties"]:List Str)).Nodup;decide +kernel) rfl (Or.inl rfl))) cA cZ (λ _ _ _ _=>fK) (λ _ _ _ _=>(bG kG T.fe PySem.boot_len (aL (dC T.fF (kA T) (hr.mono (by decide)) (aL (dv 1) (aL (dv 0) aR))) aR)))))))) z0
end
noncomputable abbrev iV (k:Nat):V:=.int k
section
variable {P:Program}{w:World}{K:PySem.W.Frag}{mg:Str->Option Value}{base:Heap}
structure DH (H0 H:Hp)(p e b:Addr)(st:List (Nat×Nat)×List Nat)(bu:List Nat):Prop where
 same:a_ H0 H
 np:H0 p=none
 ne':H0 e=none
 nb:H0 b=none
 pe:p≠e
 pb:p≠b
 eb:e≠b
 hp:H p=some (.dK (kvD (bL st.1)))
 he:H e=some (.lst (bu.map iV))
 hb:H b=some (.lst (st.2.map iV))
theorem DH.ext {H0 H H':Hp}{p e b:Addr}{st:List (Nat×Nat)×List Nat}{bu:List Nat}(h:DH H0 H p e b st bu)(s:a_ H H'):DH H0 H' p e b st bu :=
 ⟨h.same.trans s,h.np,h.ne',h.nb,h.pe,h.pb,h.eb,s _ _ h.hp,s _ _ h.he,s _ _ h.hb⟩
theorem dw {H0 H:Hp}{p:Addr}{o:HO}(s:a_ H0 H)(n:H0 p=none):a_ H0 (upd H p o):=λ c u h=>by
 rw[aV (bw h n)];exact s c u h
noncomputable def dbI (K:PySem.W.Frag):TS:=C_ (tB (AO (bF 6) (bF 2))) (dP (DA (bF 2) (bF 6) (tOp (rI0 λ i j=>V.int (i+j)) (Hy (bF 2) (bF 5)) (tC (V.int 1)))) (AD (tBM K "list" qO (bF 4) (bp (bF 6) cK)))) xa
noncomputable def dbM (K:PySem.W.Frag):TS:=xc (iDT K (gI nE (aT 2 eO (aK (aN 0) (aK (aN 5) aP))))) (bT 6) (dbI K)
noncomputable def dbW (K:PySem.W.Frag):TS:=dP (gG (zl cK) (bT 4)) (dP (xc (Dc K (bF 3)) (bT 5) (dbM K)) (gG (bF 4) (bT 3)))
noncomputable def dtW (K:PySem.W.Frag):TT:=λ σ H Q=>bF 3 σ H λ x H'=>∃ k,FR K x H' k/\Q k H'
noncomputable def dA (K:PySem.W.Frag):TS:=dP (gG (DC [(bF 1,tC (V.int 0))]) (bT 2)) (dP (gG (zl (bp (bF 1) cK)) (bT 3)) (dP (zd (dtW K) (dbW K)) (BS (bF 2))))
noncomputable abbrev sgD (vt:V)(st:Nat)(p e:Addr)(b pl nr:Option V):L2.St:=[some vt,some (iV st),some (.ref p),some (.ref e),b,pl,nr]
theorem Hh {D:Ends}{vt:V}{st place near:Nat}{p e b:Addr}{H H6:Hp}{st2:List (Nat×Nat)×List Nat}{bu:List Nat}(d6:DH H H6 p e b st2 bu)(hpk2:place∈st2.1.map (·.1))(l1:st2.1.length<=10000)(l2:st2.2.length<=10000)
  (h:∀ H',DH H H' p e b (bN place st2 near) bu->cF H6 H'->D.nx (sgD vt st p e (some (.ref b)) (some (iV place)) (some (iV near))) H'):dbI K D (sgD vt st p e (some (.ref b)) (some (iV place)) (some (iV near))) H6:=by
 refine⟨_,rfl,_,rfl,p,_,rfl,ml.k (k:=Sum.inl (near:Int)) d6.hp,_,rfl,?_⟩
 rw[nR]
 cases hk:fB st2.1 near with
 | true =>
  rw[ae rfl]
  refine IW ?_
  have:bN place st2 near=st2:=by unfold bN;rw[ae hk]
  rw[this]at h
  exact h H6 d6 cF.refl
 | false =>
  rw[af aq]
  refine DG ?_
  have hv:bN place st2 near=(st2.1++[(near,look st2.1 place+1)],st2.2++[near]):=by unfold bN;rw[af (by rw[hk];exact aq)]
  rw[hv]at h
  have hlook:gH (kvD (bL st2.1)) (Sum.inl (place:Int))=some (.int (look st2.1 place)):=by rw[nR,ae ((ib _ _).mpr hpk2)]
  have g1:ml H6 p (iV place) (some (.int (look st2.1 place))):=by
   rw[<-hlook];exact ml.k (k:=Sum.inl (place:Int)) d6.hp
  have hll:(kvD (bL st2.1)).length<sizeLine:=by
   have:(kvD (bL st2.1)).length=st2.1.length:=by simp[kvD,bL]
   rw[sizeLine_eq];omega
  refine⟨_,rfl,_,rfl,p,_,rfl,g1,_,_,rfl,rfl,_,rfl,_,rfl,p,_,rfl,xl.k (k:=Sum.inl (near:Int)) d6.hp hll,?_⟩
  have hput:putK (kvD (bL st2.1)) (Sum.inl (near:Int)) (V.int ((look st2.1 place:Int)+1))=kvD (bL (st2.1++[(near,look st2.1 place+1)])):=by
   rw[<-EA _ hk];rfl
  rw[hput]
  have hbb:upd H6 p (.dK (kvD (bL (st2.1++[(near,look st2.1 place+1)])))) b=some (.lst (st2.2.map iV)):=by rw[aV (Ne.symm d6.pb)];exact d6.hb
  refine⟨_,rfl,.inl ⟨rfl,_,SqL.of hbb⟩,_,rfl,b,_,_,rfl,rfl,hbb,by rw[ah,sizeLine_eq];omega,h _ ⟨dw (dw d6.same d6.np) d6.nb,d6.np,d6.ne',d6.nb,d6.pe,d6.pb,d6.eb,?_,?_,?_⟩ ((cF.upd (by rw[d6.hp];trivial)).trans (cF.upd (by rw[hbb];trivial)))⟩
  ·rw[aV d6.pb];exact aU
  ·rw[aV d6.eb,aV (Ne.symm d6.pe)];exact d6.he
  ·rw[aU];simp[iV]
theorem LV {K:PySem.W.Frag}{H:Hp}:Sat K H [] []:=⟨rfl,λ _ _ h=>by cases h⟩
theorem qI {K:PySem.W.Frag}{H:Hp}{x:Option V}{σ:L2.St}{δ:DE}(h:Sat K H σ δ):Sat K H (x::σ) (none::δ):=⟨congrArg (·+1) h.len,λ j d hj=>by
 cases j with
 | zero=>cases hj
 | succ j=>exact h.at_ j d hj⟩
theorem wN {K:PySem.W.Frag}{H:Hp}{v:V}{d:Dt}{σ:L2.St}{δ:DE}(i:Is K H v d)(h:Sat K H σ δ):Sat K H (some v::σ) (some d::δ):=⟨congrArg (·+1) h.len,λ j d hj=>by
 cases j with
 | zero=>cases hj;exact⟨_,rfl,i⟩
 | succ j=>exact h.at_ j d hj⟩
theorem Fw {K:PySem.W.Frag}{H':Hp}{vt:V}{st place:Nat}{p e:Addr}{b nr:Option V}{x:Dt}(i:Is K H' vt x):Sat K H' (sgD vt st p e b (some (iV place)) nr) [some x,none,none,none,none,some (aM place),none] :=
 wN i (qI (qI (qI (qI (wN (.int _) (qI LV))))))
theorem Fx {D:Ends}{vt:V}{st place:Nat}{p e b:Addr}{nr:Option V}{H H':Hp}{l:List (Nat×Nat)}{st1:List (Nat×Nat)×List Nat}{bu:List Nat}{x:Dt}(ex:dTs x=some l)(hlen:l.length<=30)(i1:Is K H' vt x)(d1:DH H H' p e b st1 bu)(bi1:BI (univ l st) st1)(hpk:place∈st1.1.map (·.1))(hl1:st1.2.length<=st1.1.length)
  (h:∀ nr H6,DH H H6 p e b (visit l st1 place) bu->cF H' H6->D.nx (sgD vt st p e (some (.ref b)) (some (iV place)) nr) H6):dbM K D (sgD vt st p e (some (.ref b)) (some (iV place)) nr) H':=by
 have tk:=sO ex hlen place
 refine⟨_,(nb l place).map aM,Fw i1,?_,iW.of (λ d hd=>by obtain⟨t,_,rfl⟩:=aA.mp hd;exact .int _),λ J H5 s5 ok=>?_⟩
 ·generalize (nb l place).map aM=zs at tk
  simp only[aM]at tk
  simp[tk,nE,aM]
 ·have d5:=d1.ext s5
  refine yo ok (λ j σ' H'=>∃ (nr:Option V),σ'=sgD vt st p e (some (.ref b)) (some (iV place)) nr/\DH H H' p e b (((nb l place).take j).foldl (bN place) st1) bu/\cF H5 H')
   ⟨nr,rfl,d5,cF.refl⟩ (λ j σ' H' _ z=>by obtain⟨_,_,_,t⟩:=z;exact t) ?_ ?_
  ·rintro j dd xv σ' H6 hj ixv ⟨nr,rfl,d6,t6⟩
   rw[List.getElem?_map]at hj
   cases hnr:(nb l place)[j]? with
   | none=>rw[hnr]at hj;cases hj
   | some near =>
    rw[hnr]at hj
    cases hj
    have hx:=ixv.int_inv
    subst hx
    have hst3:((nb l place).take (j+1)).foldl (bN place) st1=bN place (((nb l place).take j).foldl (bN place) st1) near:=by
     rw[List.take_succ,hnr,List.foldl_append];rfl
    have hpk2:=ic (f:=bN place) (λ st p k hk=>lE hk) ((nb l place).take j) st1 place hpk
    have bi2:BI (univ l st) (((nb l place).take j).foldl (bN place) st1):=nS _ (λ x hx _ hs=>uQ hs (Bk (List.mem_of_mem_take hx))) bi1
    have hl2:=lF (f:=bN place) (λ _ _=>sQ) ((nb l place).take j) st1
    have hle:=bi2.le
    rw[jL]at hle
    generalize ((nb l place).take j).foldl (bN place) st1=st2 at d6 hst3 hpk2 hl2 hle
    refine Hh d6 hpk2 (by omega) (by omega) λ H7 d7 t7=>⟨_,rfl,?_,t6.trans t7⟩
    rw[hst3];exact d7
  ·rintro σ' H6 ⟨nr,rfl,d6,t6⟩
   rw[ah,List.take_length]at d6
   exact h _ _ d6 (s5.text.trans t6)
theorem Ao {D:Ends}{vt:V}{st:Nat}{p e:Addr}{b0 pl0 nr0:Option V}{H H2:Hp}{l fd:List (Nat×Nat)}{bu:List Nat}{x:Dt}(ex:dTs x=some l)(hlen:l.length<=30)(i1:Is K H vt x)(s2:a_ H H2)(hp:H p=none)(he:H e=none)(hpe:p≠e)
  (gp:H2 p=some (.dK (kvD (bL fd)))) (ge:H2 e=some (.lst (bu.map iV))) (bi:BI (univ l st) (fd,bu))
  (h:∀ b pl nr H',a_ H H'->H b=none->p≠b->H' p=some (.dK (kvD (bL (cY l fd bu).1)))->H' b=some (.lst ((cY l fd bu).2.map iV))->D.nx (sgD vt st p b (some (.ref b)) pl nr) H'):dbW K D (sgD vt st p e b0 pl0 nr0) H2:=by
 refine⟨Nat.zero_le _,λ b hb=>?_⟩
 have hbp:p≠b:=λ z=>by subst z;rw[hb]at gp;cases gp
 have hbe:e≠b:=λ z=>by subst z;rw[hb]at ge;cases ge
 have hb0:H b=none:=s2.free hb
 have d0:DH H (upd H2 b (.lst [])) p e b (fd,[]) bu:=⟨dw s2 hb0,hp,he,hb0,hpe,hbp,hbe,by rw[aV hbp];exact gp,by rw[aV hbe];exact ge,aU⟩
 refine⟨_,rfl,e,rfl,⟨_,SqL.of d0.he⟩,Df (K:=K) (a:=e) (xs:=bu.map iV) (λ i σ' H'=>∃ (pl nr:Option V),σ'=sgD vt st p e (some (.ref b)) pl nr/\DH H H' p e b ((bu.take i).foldl (visit l) (fd,[])) bu/\cF H H')
  ⟨pl0,nr0,rfl,d0,d0.same.text⟩ (λ i σ' H' _ z=>by obtain⟨_,_,_,d,_⟩:=z;exact SqL.of d.he) ?_ ?_⟩
 ·clear d0 gp ge s2
  rintro i xv σ' H' hi ⟨pl,nr,rfl,d1,t1⟩
  rw[List.getElem?_map]at hi
  cases hpl:bu[i]? with
  | none=>rw[hpl]at hi;cases hi
  | some place =>
   rw[hpl]at hi
   cases hi
   have hst':(bu.take (i+1)).foldl (visit l) (fd,[])=visit l ((bu.take i).foldl (visit l) (fd,[])) place:=by
    rw[List.take_succ,hpl,List.foldl_append];rfl
   have bi1:BI (univ l st) ((bu.take i).foldl (visit l) (fd,[])):=nS _ (λ _ _ _ hs=>yp hs) ⟨bi.nd,bi.sub,by simp⟩
   have hpk:place∈((bu.take i).foldl (visit l) (fd,[])).1.map (·.1):=ic (f:=visit l) (λ st p k hk=>mR st k hk) _ (fd,[]) place (bi.by' place (List.mem_of_getElem? hpl))
   have hl1:=lF (f:=visit l) (λ st p=>uR st) (bu.take i) (fd,[])
   generalize (bu.take i).foldl (visit l) (fd,[])=st1 at d1 hst' bi1 hpk hl1
   refine Fx ex hlen (i1.ext d1.same) d1 bi1 hpk (by simp at hl1;omega) λ nr H6 d6 t6=>⟨_,_,rfl,?_,t1.trans t6⟩
   rw[hst'];exact d6
 ·rintro σ' H' ⟨pl,nr,rfl,d1,t1⟩
  rw[ah,List.take_length]at d1
  exact⟨_,rfl,h b pl nr H' d1.same hb0 hbp d1.hp d1.hb⟩
noncomputable def dI1 (vt:V)(st:Nat)(l:List (Nat×Nat))(H:Hp):Nat->L2.St->Hp->Prop:=λ m σ H2=>∃ (fd:List (Nat×Nat)) (bu:List Nat) (p e:Addr) (b pl nr:Option V),σ=sgD vt st p e b pl nr/\a_ H H2/\H p=none/\H e=none/\p≠e/\H2 p=some (.dK (kvD (bL fd)))/\H2 e=some (.lst (bu.map iV)) /\
  BI (univ l st) (fd,bu)/\fM l m fd bu=bfs l st/\(bu≠[]->2*l.length+3<=m+fd.length)
noncomputable def dI2 (vt:V)(st:Nat)(l fd:List (Nat×Nat))(bu:List Nat)(H:Hp):L2.St->Hp->Prop:=λ σ' H'=>∃ (p b:Addr) (pl nr:Option V),σ'=sgD vt st p b (some (.ref b)) pl nr/\a_ H H'/\H p=none/\H b=none/\p≠b/\H' p=some (.dK (kvD (bL (cY l fd bu).1)))/\H' b=some (.lst ((cY l fd bu).2.map iV))
theorem CN {D:Ends}{vt:V}{st:Nat}{H:Hp}{l:List (Nat×Nat)}{x:Dt}(ex:dTs x=some l)(hlen:l.length<=30)(i1:Is K H vt x)(q:∀ v H',a_ H H'->Is K H' v (.dct (bL (bfs l st)))->D.rt v H')(m:Nat)(σ:L2.St)(H2:Hp)(z:dI1 vt st l H m σ H2) :
  dtW K σ H2 λ b H1=>if b=true then ∃ N:L2.St->Hp->Prop,(∀ σ' H',N σ' H'->∃ m',m'<m/\dI1 vt st l H m' σ' H')/\dbW K {D with nx:=N,ct:=N,bk:=BS (bF 2) D} σ H1 else BS (bF 2) D σ H1:=by
 obtain⟨fd,bu,p,e,b0,pl0,nr0,rfl,s2,hp,he,hpe,gp,ge,bi,hm,hf⟩:=z
 refine⟨_,rfl,!(bu.map iV).isEmpty,.inl ⟨_,SqL.of ge,rfl⟩,?_⟩
 cases hedge:bu with
 | nil =>
  subst hedge
  refine IW ?_
  refine⟨_,rfl,q _ H2 s2 (.dct (.inl ?_))⟩
  rw[<-hm]
  have:fM l m fd []=fd:=by cases m<;>rfl
  rw[this];exact gp
 | cons e0 es =>
  refine DG ?_
  have hne:bu≠[]:=by rw[hedge];simp
  have hf:=hf hne
  have hle:=bi.le
  rw[jL]at hle
  have hle:fd.length<=2*l.length+1:=hle
  obtain⟨m',rfl⟩:∃ m',m=m'+1:=⟨m-1,by omega⟩
  have hstep:fM l (m'+1) fd bu=fM l m' (cY l fd bu).1 (cY l fd bu).2:=by rw[hedge];rfl
  rw[hstep]at hm
  refine⟨dI2 vt st l fd bu H,?_,?_⟩
  ·rintro σ' H' ⟨p,b,pl,nr,rfl,s3,hp,hb,hpb,gp,gb⟩
   have lb:=nU (bu:=bu) (l:=l) (fd:=fd) ⟨bi.nd,bi.sub,by simp⟩
   refine⟨m',by omega,_,_,p,b,some (.ref b),pl,nr,rfl,s3,hp,hb,hpb,gp,gb,⟨lb.nd,lb.sub,lb.by'⟩,hm,λ hb'=>?_⟩
   have:=pG (l:=l) (fd:=fd) (bu:=bu)
   have:0<(cY l fd bu).2.length:=List.length_pos_iff.mpr hb'
   omega
  ·exact Ao ex hlen i1 s2 hp he hpe gp ge bi λ b pl nr H' s3 hb hpb gp gb=>⟨p,b,pl,nr,rfl,s3,hp,hb,hpb,gp,gb⟩
theorem Fy {D:Ends}{vt:V}{st:Nat}{H:Hp}{l:List (Nat×Nat)}{x:Dt}(ex:dTs x=some l)(hlen:l.length<=30)(i1:Is K H vt x)(q:∀ v H',a_ H H'->Is K H' v (.dct (bL (bfs l st)))->D.rt v H'):dA K D [some vt,some (iV st),none,none,none,none,none] H:=by
 intro p hp
 refine⟨_,rfl,aU,[(Sum.inl (st:Int),.int 0)],rfl,by simp,?_⟩
 refine⟨_,rfl,by show 1<=sizeLine;decide,λ e he=>?_⟩
 have hp0:upd (upd H p (.dK [])) p (.dK (kS [] [(Sum.inl (st:Int),V.int 0)]))=upd H p (.dK (kvD (bL [(st,0)]))):=by rw[Az];rfl
 rw[hp0]at he ⊢
 have hpe:p≠e:=λ z=>by subst z;rw[aU]at he;cases he
 have he0:H e=none:=by rw[aV (Ne.symm hpe)]at he;exact he
 refine⟨dI1 vt st l H,⟨2*l.length+2,[(st,0)],[st],p,e,none,none,none,rfl,dw (dw (a_.refl H) hp) he0,hp,he0,hpe,by rw[aV hpe];exact aU,aU,⟨by simp,λ q hq=>by rw[List.mem_singleton.mp hq];exact ai,λ j hj=>by simpa using hj⟩,rfl,λ _=>by simp⟩,?_⟩
 exact λ m σ H2 z=>CN ex hlen i1 q m σ H2 z
set_option tactic.hygienic true in
theorem kD (T : Txt K mg) : bQ P w K mg base CX0 2 T.eE.f T.eE.fd ["ties", "start"] (spD K 2 dG) := by
  refine T.eE.F.ok dN (λ vs H Q E h => ?_) (λ cdv A outer s H vs Q E hr h => ?_)
  · obtain⟨ds, d, hl, is, _⟩ := h
    rw[is.length, hl]; rfl
  · obtain⟨ds, d, hl, is, e, q⟩ := h
    match ds, e with
    | [x, y], e =>
      obtain⟨l, e1, e⟩ := aQ (show(dTs x).bind _ = _ from e)
      obtain⟨st, e2, e⟩ := aQ e
      split at e
      · rename_i hlen
        cases e
        have e2 := bJ e2
        subst e2
        obtain⟨vt, v2, rfl, i1, i2⟩ := is.two
        have hv2 := i2.int_inv
        subst hv2
        have hu := DF hr
        refine⟨dA K, ba (b_ (i := 2) dN.nd rfl (Or.inl rfl) (qQ (kQ (pv 1) bA qP) rfl rfl (by simp) (by decide)))
          (ba (b_ (i := 3) dN.nd rfl (Or.inl rfl) (jU (aW (pv 1) bx)))
          (ba (rz PassesOwn.never (xg (pv 3) (λ _ => rfl))
            (ba (b_ (i := 4) dN.nd rfl (Or.inl rfl) (jU bx))
            (ba (jT PassesOwn.never rfl (ve (pv 3)) (bh (i := 5) dN.nd rfl (Or.inl rfl))
              (bW (jT PassesOwn.never rfl (Bj (dC T.fF (kA T) (hr.mono (by decide)) (aL (dv 0) (aL (dv 5) aR)))) (bh (i := 6) dN.nd rfl (Or.inl rfl))
                (bW (rq (C8 (B5 hu (pv 6) (pv 2)) (by with_unfolding_all rfl)) (ba (AR hu (pv 2) (pv 6) (cW jr (AQ hu (pv 2) (pv 5) (λ _ _ => rfl)) bA) rfl)
                  (bW (qM (AN PySem.F.plainAttrs_list PySem.F.slot_list_append PySem.F.type_list_append oZ (pv 4) (aW (pv 6) bx))))) jR)))))
            (bW (b_ (i := 3) dN.nd rfl (Or.inl rfl) (pv 4))))))
          (bW (jq (pv 2))))), ?_⟩
        exact Fy e1 (by omega) i1 q
      · cases e
end
section
variable {P:Program}{w:World}{K:PySem.W.Frag}{mg:Str->Option Value}{base:Heap}
noncomputable def Fz (K:PySem.W.Frag):Sp:=λ vs H Q _=>∃ (a:Addr) (ns:List Int) (k:Nat),vs=[.ref a,.int k]/\SqL K H a (ns.map V.int)/\ns.length<=63/\∀ c,Q (.int c) H
theorem Hi (T:Txt K mg):bQ P w K mg base CX0 1 T.cQ.f T.cQ.fd ["_law_script","_law_k"] (Fz K):=by
 refine T.cQ.F.ok qH (λ vs H Q E h=>?_) (λ cdv A outer s H vs Q E hr h=>?_)
 ·obtain⟨a,ns,k,rfl,_⟩:=h
  rfl
 ·obtain⟨a,ns,k,rfl,hS,hl,q⟩:=h
  refine⟨_,ba (rq (qN Hu (pv 1) (fH hE (by rfl) T.fe PySem.boot_len (aW (pv 0) bx)) (rC _)) (bW (jq (iF gu (pv 0) (pv 1) (λ _ _=>rfl)))) jR) (bW (jq bA)),?_⟩
  refine⟨_,rfl,_,rfl,a,_,rfl,.inl hS,_,_,rfl,rfl,_,rfl,?_⟩
  refine IX (λ hc=>?_) (λ _=>q 0)
  have hk:k<ns.length:=by
   have:=of_decide_eq_true hc
   rw[ah]at this
   omega
  exact⟨_,rfl,_,rfl,a,_,_,.int ns[k],rfl,rfl,hS,by
   unfold atI ixN
   rw[ae (by omega),ae (by rw[ah];omega)]
   simp[hk],q _⟩
noncomputable def jC:Sp:=λ vs H Q _=>∃ (p:Addr) (n far:Int),vs=[.ref p,.int far]/\H p=some (.lst [.int n])/\0<far/\far<1073741824/\Q (.int (n % far)) (upd H p (.lst [.int (n / far)]))
theorem fW (T:Txt K mg):bQ P w K mg base CX0 1 T.aY.f T.aY.fd ["_law_pot_here","_law_far"] jC:=by
 refine T.aY.F.ok oz (λ vs H Q E h=>?_) (λ cdv A outer s H vs Q E hr h=>?_)
 ·obtain⟨p,n,far,rfl,_⟩:=h
  rfl
 ·obtain⟨p,n,far,rfl,hp,h0,h1,q⟩:=h
  refine⟨_,ba (b_ (i:=2) oz.nd rfl (Or.inl rfl) (cW oR (iF gu (pv 0) bA (λ _ _=>rfl)) (pv 1)))
   (ba (oN (cW FP (iF gu (pv 0) bA (λ _ _=>rfl)) (pv 1)) (vd (pv 0) bA set_list))
   (bW (jq (pv 2)))),?_⟩
  refine⟨_,rfl,p,_,_,.int n,rfl,rfl,SqL.of hp,rfl,_,rfl,_,_,rfl,rfl,h0,?_⟩
  refine⟨_,rfl,p,_,_,.int n,rfl,rfl,SqL.of hp,rfl,_,rfl,_,_,rfl,rfl,⟨h0,h1⟩,_,rfl,p,_,_,0,rfl,rfl,hp,rfl,_,rfl,?_⟩
  exact q
noncomputable def Ia:Sp:=λ vs H Q _=>∃ c:Int,vs=[.int c]/\∀ (p:Addr) (n:Int),H p=none->Q (.ref p) (upd H p (.lst [.int n]))
theorem Kb (T:Txt K mg):bQ P w K mg base CX0 1 T.fw.f T.fw.fd ["_law_cell"] Ia:=by
 refine T.fw.F.ok fE (λ vs H Q E h=>?_) (λ cdv A outer s H vs Q E hr h=>?_)
 ·obtain⟨c,rfl,_⟩:=h
  rfl
 ·obtain⟨c,rfl,q⟩:=h
  refine⟨_,ba (rq (qN Hv (pv 0) (cW Dg bA bA) (rC _)) (bW (jq (jU (aW (cW rB (pv 0) (cW Dg bA bA)) bx)))) jR)
   (ba (b_ (i:=1) fE.nd rfl (Or.inl rfl) bA)
   (ba (jT PassesOwn.never rfl (jF rfl T.cS (aW bA bx)) (bh (i:=2) fE.nd rfl (Or.inl rfl))
    (ba (b_ (i:=3) fE.nd rfl (Or.inl rfl) (cW oR (cW oQ (cW jr (cW jr (cW oR (pv 0) bA) (cW oQ bA (pv 2))) bA) bA) bA))
    (ba (b_ (i:=3) fE.nd rfl (Or.inl rfl) (cW oR (cW jr (cW jr (cW oQ (pv 3) (pv 3)) (cW oQ bA (pv 2))) bA) bA))
    (bW (b_ (i:=1) fE.nd rfl (Or.inl rfl) (cW jr (cW oQ (pv 1) bA) (pv 3)))))))
   (bW (jq (jU (aW (pv 1) bx)))))),?_⟩
  refine⟨_,rfl,_,_,rfl,rfl,⟨by decide,by decide,by decide⟩,_,_,rfl,rfl,_,rfl,?_⟩
  refine IX (λ _=>?_) (λ _=>?_)
  ·exact⟨_,rfl,_,_,rfl,rfl,⟨by decide,by decide,by decide⟩,_,_,rfl,rfl,by show 1<=sizeLine;decide,λ l hl=>q l _ hl⟩
  ·refine⟨64,rfl,by decide,by decide,lN (n:=64) (λ i σ H'=>H'=H/\∃ (n:Int) (a b:Option V),σ=[some (.int c),some (.int n),a,b]) ⟨rfl,0,none,none,rfl⟩ ?_ ?_⟩
   ·rintro i σ H' hi ⟨rfl,n,a,b,rfl⟩
    refine⟨_,rfl,_,_,rfl,rfl,(by show(0:Int)<2147483629;decide),_,rfl,_,_,rfl,rfl,.inl ⟨by decide,by decide⟩,_,_,rfl,rfl,_,_,rfl,rfl,_,_,rfl,rfl,.inr ⟨by decide,by decide⟩,_,_,rfl,rfl,(by show(0:Int)<2147483647;decide),?_⟩
    generalize hmx:((c % 2147483629+7919*(0+(i:Int))+1)*48271) % 2147483647=mx
    have h0:0<=mx:=by rw[<-hmx];exact Int.emod_nonneg _ (by decide)
    have h1:mx<2147483647:=by rw[<-hmx];exact Int.emod_lt_of_pos _ (by decide)
    refine⟨_,rfl,_,rfl,_,_,rfl,rfl,.inl ⟨by omega,by omega⟩,_,rfl,_,_,rfl,rfl,.inl ⟨by decide,by decide⟩,_,_,rfl,rfl,_,_,rfl,rfl,_,_,rfl,rfl,(by show(0:Int)<2147483587;decide),?_⟩
    refine⟨_,rfl,_,_,rfl,rfl,.inr ⟨by decide,by decide⟩,_,rfl,_,_,rfl,rfl,?_⟩
    exact⟨rfl,_,_,_,rfl⟩
   ·rintro σ H' ⟨rfl,n,a,b,rfl⟩
    exact⟨_,rfl,by show 1<=sizeLine;decide,λ l hl=>q l _ hl⟩
end
noncomputable def But (p:Addr)(H H':Hp):Prop:=∀ b o,H b=some o->b≠p->H' b=some o
theorem But.refl (p:Addr)(H:Hp):But p H H:=λ _ _ h _=>h
theorem But.wO {p:Addr}{H H':Hp}{o:HO}(h:But p H H'):But p H (upd H' p o):=λ b u e n=>by rw[aV n];exact h b u e n
theorem But.new {p q:Addr}{H H':Hp}{o:HO}(h:But p H H')(hq:H q=none):But p H (upd H' q o):=λ b u e n=>by rw[aV (bw e hq)];exact h b u e n
theorem But.none {p q:Addr}{H H':Hp}(h:But p H H')(hn:H' q=none)(hp:q≠p):H q=none:=by
 cases e:H q with
 | none=>rfl
 | some o=>rw[h q o e hp]at hn;cases hn
theorem tM {α:Type}:∀ (L:List α) {j:Nat} (h:j<L.length),(L[j]::L.eraseIdx j).Perm L
 | a::r,0,h=>.refl _
 | a::r,j+1,h=>by
  have ih:=tM r (j:=j) (by simpa using h)
  show(r[j]'(by simpa using h)::a::r.eraseIdx j).Perm (a::r)
  exact(List.Perm.swap _ _ _).trans (ih.cons a)
theorem u6 {α β:Type}(f:α->β):∀ (L:List α) (j:Nat),(L.map f).eraseIdx j=(L.eraseIdx j).map f
 | [],_=>rfl
 | a::r,0=>rfl
 | a::r,j+1=>by show f a::(r.map f).eraseIdx j=f a::(r.eraseIdx j).map f;rw[u6 f r j]
theorem Ib {xs:List Nat}{j:Nat}(h:j<xs.length):atI (xs.map iV) (j:Int)=some (iV (xs.getD j 0)):=by
 refine iY ?_
 rw[List.getElem?_map,aD,aF h];rfl
noncomputable def TN (H:Hp)(vs:List V)(l:List (Nat×Nat)):Prop:=Cd H vs (l.map λ t=>[(t.1:Int),(t.2:Int)])
theorem TN.text {H H':Hp}{vs:List V}{l:List (Nat×Nat)}(h:TN H vs l)(e:cF H H'):TN H' vs l:=Paired.imp' (λ _ _ ⟨b,e1,e2⟩=>⟨b,e1,e.jE _ _ e2⟩) h
theorem TN.len {H:Hp}{vs:List V}{l:List (Nat×Nat)}(h:TN H vs l):vs.length=l.length:=by have:=Paired.length h;simpa using this
theorem TN.snoc {H:Hp}{vs:List V}{l:List (Nat×Nat)}{b:Addr}{t:Nat×Nat}(h:TN H vs l)(hb:H b=some (.tup [.int t.1,.int t.2])):TN H (vs++[.ref b]) (l++[t]):=by
 unfold TN at *
 rw[List.map_append]
 exact Paired.snoc h ⟨b,rfl,hb⟩
theorem TN.get {H:Hp}{vs:List V}{l:List (Nat×Nat)}(h:TN H vs l){i:Nat}{v:V}(e:vs[i]?=some v):∃ t b,l[i]?=some t/\v=.ref b/\H b=some (.tup [.int t.1,.int t.2]):=by
 obtain⟨k,hk,b,e1,e2⟩:=o8 h i v e
 rw[List.getElem?_map]at hk
 cases ht:l[i]? with
 | none=>rw[ht]at hk;cases hk
 | some t=>rw[ht]at hk;cases hk;exact⟨t,b,rfl,e1,e2⟩
theorem yW {K:PySem.W.Frag}{H:Hp}{ws:List V}{l:List (Nat×Nat)}(h:TN H ws l):Iss K H ws (l.map bM):=by
 induction l generalizing ws with
 | nil=>cases h;exact .nil
 | cons t r ih =>
  cases h with
  | cons h1 h2 =>
   obtain⟨b,rfl,hb⟩:=h1
   exact .cons (.tup (SqT.of hb) (.cons (.int _) (.cons (.int _) .nil))) (ih h2)
theorem CO {ks:List (List Int)}{l:List (Nat×Nat)}(h:∀ k∈ks,k∈l.map λ t=>[(t.1:Int),(t.2:Int)]):(ks.map λ k=>(k.getD 0 0,k.getD 1 0)).map (λ(k:Int×Int)=>[k.1,k.2])=ks:=by
 rw[List.map_map]
 conv=>rhs;rw[<-List.map_id ks]
 refine aE λ k hk=>?_
 obtain⟨t,_,rfl⟩:=aA.mp (h k hk)
 rfl
section
variable {P:Program}{w:World}{K:PySem.W.Frag}{mg:Str->Option Value}{base:Heap}
noncomputable def Ic (K:PySem.W.Frag):Sp:=λ vs H Q _=>∃ (p:Addr) (n:Int) (thick:Nat),vs=[.ref p,.int 8,.int thick]/\thick<=1/\H p=some (.lst [.int n]) /\
 ∀ v H' (n':Int) (w:Web),Good w->(thick=0->w.2.length+1=w.1)->Is K H' v (bf w)->H' p=some (.lst [.int n'])->But p H H'->Q v H'
noncomputable def Kc (K:PySem.W.Frag):List V->Hp->VK->Prop:=λ xs H Q=>∃ p ys,xs=[.ref p]/\(SqL K H p ys\/SqT K H p ys)/\Q (.int ys.length) H
noncomputable def Kd:List V->Hp->VK->Prop:=λ xs H Q=>∃ i j,xs=[.int i,.int j]/\Q (.int (if j<i then j else i)) H
noncomputable def Ke:List V->Hp->VK->Prop:=λ xs H Q=>∃ i j,xs=[.int i,.int j]/\Q (.int (if j>i then j else i)) H
noncomputable def Kf:List V->Hp->VK->Prop:=λ xs H Q=>∃ (r:Addr) (n:Nat),xs=[V.ref r]/\H r=some (HO.rng 0 (n:Int))/\n<=1000/\∀ (p:Addr),H p=none->Q (V.ref p) (upd H p (HO.lst (List.map (λ(i:Nat)=>V.int (i:Int)) (List.range n))))
noncomputable def LW:List V->Hp->VK->Prop:=λ xs H Q=>∃ (j:Int),xs=[V.int j]/\∀ (p:Addr),H p=none->Q (V.ref p) (upd H p (HO.rng 0 j))
noncomputable def Kg (K:PySem.W.Frag):List V->Hp->VK->Prop:=λ xs H Q=>∃ p ys,xs=[V.ref p]/\((SqL K H p ys/\∀ (l:Addr),H l=none->Q (V.ref l) (upd H l (HO.tup ys)))\/SqT K H p ys/\Q (V.ref p) H)
noncomputable def Hj (w:World):List V->Hp->VK->Prop:=λ xs H Q=>∃ (S:Addr) (kk:List (Int×Int)),xs=[V.ref S]/\Gb w H S (List.map (λ(k:Int×Int)=>[k.1,k.2]) kk)/\kk.length<64/\∀ (p:Addr) (ws:List V) (ss:List (Int×Int)),H p=none->Cd H ws (List.map (λ(k:Int×Int)=>[k.1,k.2]) ss)->List.Pairwise (λ a b=>Tb.pLt a b=true) ss->ss.Perm kk->Q (V.ref p) (upd H p (HO.lst ws))
noncomputable def Nq (K:PySem.W.Frag)(w:World):List V->Hp->VK->Prop:=λ xs H Q=>∃ (l:Addr) (vs:List V) (kk:List (List Int)),xs=[V.ref l]/\SqL K H l vs/\Cd H vs kk/\vs.length<=40/\∀ (S:Addr) (o:HO) (ks:List (List Int)),H S=none->Gb w (upd H S o) S ks->(∀ (k:List Int),k∈ks↔k∈kk)->Q (V.ref S) (upd H S o)
noncomputable def wF (K:PySem.W.Frag)(w:World):TS:=BS (B1 (bp (bF 3) (bp (tCB (Kg K) (bp (tCB (Hj w) (bp (tCB (Nq K w) (bp (bF 8) cK)) cK)) cK)) cK)))
noncomputable def eN (K:PySem.W.Frag):TE:=B1 (bp (tCB Kd (bp (tOp (rM K) (bF 2) (bF 0)) (bp (tOp (rM K) (bF 2) (bF 1)) cK))) (bp (tCB Ke (bp (tOp (rM K) (bF 2) (bF 0)) (bp (tOp (rM K) (bF 2) (bF 1)) cK))) cK))
noncomputable def wE (K:PySem.W.Frag)(w:World):TS:=dP (λ D σ H=>tLC ["_law_one","_law_other"] [7] (Dc K (bF 8)) (BV K 2 (mr (bT 0) (mr (bT 1) BU))) DU (eN K) σ H λ v H'=>D.nx (List.set σ 8 (some v)) H') (wF K w)
noncomputable def b2 (K:PySem.W.Frag):TS:=dP (gG (iX jC [] E0 (bp (bF 0) (bp (bF 3) cK))) (bT 12)) (dP (gG (iX jC [] E0 (bp (bF 0) (bp (bF 3) cK))) (bT 13)) (C_ (Dh (tOp rNe (bF 12) (bF 13))) (AD (tBM K "list" qO (bF 8) (bp (B1 (bp (bF 12) (bp (bF 13) cK))) cK))) xa))
noncomputable def wD (K:PySem.W.Frag)(w:World):TS:=dP (xc (AF (bp (bF 5) cK)) (bT 11) (b2 K)) (wE K w)
noncomputable def b1 (K:PySem.W.Frag):TS:=dP (gG (iX jC [] E0 (bp (bF 0) (bp (bF 9) cK))) (bT 10)) (AD (tBM K "list" qO (bF 8) (bp (B1 (bp (tOp (rM K) (zl (bp (tOp (rI0 λ i j=>V.int (i-j)) (bF 9) (tC (V.int 1))) (bp (bF 10) (bp (bF 10) (bp (tC (V.int 0)) cK))))) (bF 4)) (bp (bF 9) cK))) cK)))
noncomputable def wC (K:PySem.W.Frag)(w:World):TS:=dP (gG (zl cK) (bT 8)) (dP (xc (Hs (bp (tC (V.int 1)) (bp (bF 3) cK))) (bT 9) (b1 K)) (wD K w))
noncomputable def eC (K:PySem.W.Frag):TE:=tBM K "list" zv (bF 1) (bp (iX jC [] E0 (bp (bF 2) (bp (tCB (Kc K) (bp (bF 1) cK)) cK))) cK)
noncomputable def wB (K:PySem.W.Frag)(w:World):TS:=dP (gG (tLC ["_law_turn"] [6,0] (AF (bp (bF 3) cK)) (bT 0) DU (eC K)) (bT 7)) (wC K w)
noncomputable def wA (K:PySem.W.Frag)(w:World):TS:=dP (gG (tOp (rI0 λ i j=>V.int (i+j)) (tC (V.int 2)) (iX jC [] E0 (bp (bF 0) (bp (tOp (rI0 λ i j=>V.int (i-j)) (bF 1) (tC (V.int 1))) cK)))) (bT 3)) (dP (gG (iX jC [] E0 (bp (bF 0) (bp (tC (V.int 4)) cK))) (bT 4)) (dP (gG (tOp (rI FO λ i j=>V.int (i*j)) (tOp (rM K) (zl (bp (tC (V.int 0)) (bp (tC (V.int 1)) (bp (tC (V.int 2)) (bp (tC (V.int 12)) cK))))) (iX jC [] E0 (bp (bF 0) (bp (tC (V.int 4)) cK)))) (bF 2)) (bT 5)) (dP (gG (tCB Kf (bp (tCB LW (bp (bF 3) cK)) cK)) (bT 6)) (wB K w))))
noncomputable def QW (K:PySem.W.Frag)(p:Addr)(H:Hp)(thick:Nat)(rt:VK):Prop:=∀ v H' (n':Int) (w:Web),Good w->(thick=0->w.2.length+1=w.1)->Is K H' v (bf w)->H' p=some (.lst [.int n'])->But p H H'->rt v H'
noncomputable abbrev sgW (p:Addr)(thick m sh extra:Nat)(lf cl ti:V)(pl dr tu on ot:Option V):L2.St:=[some (.ref p),some (.int 8),some (iV thick),some (iV m),some (iV sh),some (iV extra),some lf,some cl,some ti,pl,dr,tu,on,ot]
theorem Kh {m:Nat}{xs:List Nat}{tb te:List (Nat×Nat)}{ss:List (Int×Int)}(Dr:Drawn m xs tb te)(hpw:ss.Pairwise λ a b=>Tb.pLt a b=true)(memss:∀ k,k∈ss↔∃ t∈(tb++te).map (rel xs),k=((t.1:Int),(t.2:Int))) :
  Good (m,ss.map λ k=>(k.1.toNat,k.2.toNat))/\(te=[]->(ss.map λ k=>(k.1.toNat,k.2.toNat)).length+1=m):=by
 refine GN Dr (ss:=ss.map λ k=>(k.1.toNat,k.2.toNat)) ?_ λ t=>?_
 ·rw[List.pairwise_map]
  refine List.Pairwise.imp_of_mem ?_ hpw
  intro a b ha hb hab
  obtain⟨t,_,rfl⟩:=(memss a).mp ha
  obtain⟨u,_,rfl⟩:=(memss b).mp hb
  rw[Tb.nA]at hab
  rw[sR]
  simp at hab ⊢
  omega
 ·rw[aA]
  constructor
  ·rintro⟨k,hk,rfl⟩
   obtain⟨u,hu,rfl⟩:=(memss k).mp hk
   simpa using hu
  ·intro ht
   exact⟨((t.1:Int),(t.2:Int)),(memss _).mpr ⟨t,ht,rfl⟩,by simp⟩
theorem Hk {H:Hp}{ws:List V}{ss:List (Int×Int)}{l:List (Nat×Nat)}(memss:∀ k,k∈ss↔∃ t∈l,k=((t.1:Int),(t.2:Int)))(htups:Cd H ws (ss.map λ k=>[k.1,k.2])):TN H ws (ss.map λ k=>(k.1.toNat,k.2.toNat)):=by
 have back:(ss.map λ k=>(k.1.toNat,k.2.toNat)).map (λ t=>((t.1:Int),(t.2:Int)))=ss:=by
  rw[List.map_map]
  conv=>rhs;rw[<-List.map_id ss]
  refine aE λ k hk=>?_
  obtain⟨t,_,rfl⟩:=(memss k).mp hk
  simp
 unfold TN
 have:(ss.map λ k=>(k.1.toNat,k.2.toNat)).map (λ t=>[(t.1:Int),(t.2:Int)])=ss.map λ k=>[k.1,k.2]:=by
  conv=>rhs;rw[<-back]
  rw[List.map_map,List.map_map,List.map_map];rfl
 rw[this];exact htups
theorem LX {D:Ends}{σ:L2.St}{p:Addr}{H:Hp}{thick m:Nat}{xs:List Nat}{tb te:List (Nat×Nat)}{q0:Addr}{H8:Hp}{ys:List V}{n7:Int}(q:QW K p H thick D.rt)(Dr:Drawn m xs tb te)(hte:thick=0->te=[])
  (h3:σ[3]?=some (some (iV m))) (h8:σ[8]?=some (some (.ref q0))) (y8:H8 q0=some (.lst ys)) (tn8:TN H8 ys ((tb++te).map (rel xs))) (p8:H8 p=some (.lst [.int n7])) (b8:But p H H8) (yl:(tb++te).length<=19):wF K w D σ H8:=by
 have hyl:=tn8.len
 rw[ah]at hyl
 refine⟨_,h3,_,h8,q0,ys,_,rfl,SqL.of y8,tn8,by omega,λ S o ks hS hset hmem=>?_⟩
 have s1:a_ H8 (upd H8 S o):=a_.upd hS
 have S0:H S=none:=b8.none hS (Ne.symm (bw p8 hS))
 have b9:But p H (upd H8 S o):=b8.new S0
 have p9:=s1 _ _ p8
 have ndks:ks.Nodup:=by obtain⟨_,_,_,_,_,_,_,_,_,_,_,nd,_⟩:=hset;exact nd
 generalize upd H8 S o=H9 at b9 p9 hset
 have frm:=CO λ k hk=>(hmem k).mp hk
 have ksl:ks.length<=19:=by
  have:=aH ndks λ k hk=>(hmem k).mp hk
  rw[ah,ah]at this
  omega
 refine⟨S,ks.map λ k=>(k.getD 0 0,k.getD 1 0),rfl,by rw[frm];exact hset,by rw[ah];omega,λ sp ws ss hsp htups hpw hperm=>?_⟩
 have sp0:H sp=none:=b9.none hsp (Ne.symm (bw p9 hsp))
 refine⟨sp,ws,rfl,.inl ⟨SqL.of aU,λ tp htp=>?_⟩⟩
 have s2:a_ H9 (upd (upd H9 sp (.lst ws)) tp (.tup ws)):=(a_.upd hsp).trans (a_.upd htp)
 have ntsp:tp≠sp:=λ z=>by rw[z,aU]at htp;cases htp
 have htp9:H9 tp=none:=by rw[aV ntsp]at htp;exact htp
 have tp0:H tp=none:=b9.none htp9 (Ne.symm (bw p9 htp9))
 have b10:But p H (upd (upd H9 sp (.lst ws)) tp (.tup ws)):=(b9.new sp0).new tp0
 have p10:=s2 _ _ p9
 have memss:∀ k,k∈ss↔∃ t∈(tb++te).map (rel xs),k=((t.1:Int),(t.2:Int)):=λ k=>by
  rw[hperm.mem_iff,aA]
  constructor
  ·rintro⟨l0,hl0,rfl⟩
   obtain⟨t,ht,rfl⟩:=aA.mp ((hmem l0).mp hl0)
   exact⟨t,ht,rfl⟩
  ·rintro⟨t,ht,rfl⟩
   exact⟨[(t.1:Int),(t.2:Int)],(hmem _).mpr (aA.mpr ⟨t,ht,rfl⟩),rfl⟩
 obtain⟨hgood,hthin⟩:=Kh Dr hpw memss
 have hI:Is K (upd (upd H9 sp (.lst ws)) tp (.tup ws)) (.ref tp) _:=Is.tup (SqT.of aU) (yW ((Hk memss htups).text s2.text))
 generalize upd (upd H9 sp (.lst ws)) tp (.tup ws)=H10 at b10 p10 hI
 refine⟨by show 2<=sizeLine;decide,λ fin hfin=>?_⟩
 have s3:a_ H10 (upd H10 fin (.tup [.int m,.ref tp])):=a_.upd hfin
 have f0:H fin=none:=b10.none hfin (Ne.symm (bw p10 hfin))
 exact q _ _ n7 (m,ss.map λ k=>(k.1.toNat,k.2.toNat)) hgood (λ h0=>hthin (hte h0)) (.tup (SqT.of aU) (.cons (.int _) (.cons (hI.ext s3) .nil))) (s3 _ _ p10) (b10.new f0)
theorem LY {ti:Addr}{Q:VK}{σ:L2.St}{xs:List Nat}{m:Nat}{cl:Addr}{t:Nat×Nat}{H':Hp}(h0:σ[0]?=some (some (iV t.1)))(h1:σ[1]?=some (some (iV t.2)))(h2:σ[2]?=some (some (.ref cl)))(c7:H' cl=some (.lst (xs.map iV)))(l1:t.1<xs.length)(l2:t.2<xs.length)
  (q:∀ tt,H' tt=none->Q (.ref tt) (upd H' tt (.tup [.int (rel xs t).1,.int (rel xs t).2]))):eN K σ H' Q:=by
 have a1:=Ib (xs:=xs) l1
 have a2:=Ib (xs:=xs) l2
 refine⟨_,h2,_,h0,cl,_,_,_,rfl,rfl,SqL.of c7,a1,_,h2,_,h1,cl,_,_,_,rfl,rfl,SqL.of c7,a2,_,_,rfl,_,h2,_,h0,cl,_,_,_,rfl,rfl,SqL.of c7,a1,_,h2,_,h1,cl,_,_,_,rfl,rfl,SqL.of c7,a2,_,_,rfl,by show 2<=sizeLine;decide,λ tt htt=>?_⟩
 have erel:([V.int (if ((xs.getD t.2 0:Nat):Int)<((xs.getD t.1 0:Nat):Int) then ((xs.getD t.2 0:Nat):Int) else ((xs.getD t.1 0:Nat):Int)),V.int (if ((xs.getD t.2 0:Nat):Int)>((xs.getD t.1 0:Nat):Int) then ((xs.getD t.2 0:Nat):Int) else ((xs.getD t.1 0:Nat):Int))]:List V)=[.int (rel xs t).1,.int (rel xs t).2]:=by
  unfold rel
  simp only[List.cons.injEq,V.int.injEq,and_true]
  constructor<;>(split<;>omega)
 rw[erel]
 exact q tt htt
noncomputable def iE (p:Addr)(H:Hp)(xs:List Nat)(tb te:List (Nat×Nat))(cl ti:Addr)(vs:List V)(n7:Int):Nat->Nat->List V->Hp->Prop:=λ i mm ys H'=>mm=vs.length-i/\i<=vs.length/\ys.length=i/\TN H' ys (((tb++te).take i).map (rel xs))/\H' ti=some (.lst vs)/\TN H' vs (tb++te)/\H' cl=some (.lst (xs.map iV))/\H' p=some (.lst [.int n7])/\But p H H'
theorem LZ {D:Ends}{p:Addr}{H:Hp}{thick m sh extra:Nat}{xs:List Nat}{tb te:List (Nat×Nat)}{lf cl ti:Addr}{pl dr tu on ot:Option V}{H7:Hp}{vs:List V}{n7:Int}(q:QW K p H thick D.rt)(Dr:Drawn m xs tb te)(hte:thick=0->te=[])
  (t7:H7 ti=some (.lst vs)) (tn7:TN H7 vs (tb++te)) (c7:H7 cl=some (.lst (xs.map iV))) (p7:H7 p=some (.lst [.int n7])) (b7:But p H H7) (hl:(tb++te).length<=19):wE K w D (sgW p thick m sh extra (.ref lf) (.ref cl) (.ref ti) pl dr tu on ot) H7:=by
 have hvl:=tn7.len
 refine⟨_,rfl,ti,rfl,⟨_,SqL.of t7⟩,iE p H xs tb te cl ti vs n7,
  ⟨vs.length,rfl,Nat.zero_le _,rfl,.nil,t7,tn7,c7,p7,b7⟩,?_⟩
 clear t7 tn7 c7 p7 b7
 rintro i mm ys H' ⟨rfl,hiv,hyl,tny,t7,tn7,c7,p7,b7⟩
 rcases Nat.lt_or_ge i vs.length with hi' | hi'
 ·right
  have hxi:vs[i]?=some vs[i]:=by simp[hi']
  obtain⟨t,b,et,ev,hb⟩:=tn7.get hxi
  have htm:=Dr.all (List.mem_of_getElem? et)
  have hxl:xs.length=m:=Dr.len
  refine⟨⟨vs,vs[i],SqL.of t7,hxi⟩,by rw[sizeLine_eq];omega,λ x H'' ⟨e1,yx⟩=>?_⟩
  subst e1
  have ex:=yx vs (SqL.of t7)
  rw[hxi]at ex
  have ex:=ao ex
  subst ex
  refine⟨b,_,ev,SqT.of hb,rfl,_,_,rfl,_,_,rfl,rfl,?_⟩
  dsimp only [DU]
  refine DG ?_
  refine LY (ti:=ti) (m:=m) (t:=t) rfl rfl rfl c7 (by omega) (by omega) λ tt htt=>?_
  have sm:a_ H'' (upd H'' tt (.tup [.int (rel xs t).1,.int (rel xs t).2])):=a_.upd htt
  have tt0:H tt=none:=b7.none htt (Ne.symm (bw p7 htt))
  refine⟨vs.length-(i+1),by omega,rfl,hi',by simp[hyl],?_,sm _ _ t7,tn7.text sm.text,sm _ _ c7,sm _ _ p7,b7.new tt0⟩
  rw[List.take_succ,et,List.map_append]
  exact(tny.text sm.text).snoc (t:=rel xs t) aU
 ·left
  have hi2:vs.length=i:=by omega
  subst hi2
  rw[List.take_of_length_le (by omega)]at tny
  refine⟨⟨vs,SqL.of t7,ag _⟩,λ q0 hq0=>?_⟩
  have s0:a_ H' (upd H' q0 (.lst ys)):=a_.upd hq0
  exact LX (D:=D) q Dr hte rfl rfl aU (tny.text s0.text) (s0 _ _ p7) (b7.new (b7.none hq0 (Ne.symm (bw p7 hq0)))) hl
theorem Ki {D:Ends}{p:Addr}{thick m sh extra:Nat}{lf cl ti:Addr}{pl dr tu on ot:Option V}{H':Hp}{vs:List V}{n7:Int}(m2:0<m)(m8:m<=8)(p7:H' p=some (.lst [.int n7]))(t7:H' ti=some (.lst vs))(ntp:ti≠p)(hvl:vs.length<=60)
  (h1:∀ (o1 o2:Nat) (n9:Int) on ot,D.nx (sgW p thick m sh extra (.ref lf) (.ref cl) (.ref ti) pl dr tu on ot) (upd H' p (.lst [.int n9])))
  (h2:∀ (o1 o2:Nat) (n9:Int) on ot tt,o1<m->o2<m->o1≠o2->upd H' p (.lst [.int n9]) tt=none->D.nx (sgW p thick m sh extra (.ref lf) (.ref cl) (.ref ti) pl dr tu on ot) (upd (upd (upd H' p (.lst [.int n9])) tt (.tup [.int o1,.int o2])) ti (.lst (vs++[.ref tt])))) :
  b2 K D (sgW p thick m sh extra (.ref lf) (.ref cl) (.ref ti) pl dr tu on ot) H':=by
 have mp:(0:Int)<m:=by omega
 refine⟨_,rfl,_,rfl,p,n7,_,rfl,p7,mp,by show(m:Int)<_;omega,?_⟩
 dsimp only
 obtain⟨o1,ho1,o1m⟩:∃ d:Nat,n7 % (m:Int)=d/\d<m:=⟨(n7 % (m:Int)).toNat,by have:=Int.emod_nonneg n7 (show(m:Int)≠0 by omega);omega,by have:=Int.emod_lt_of_pos n7 mp;have:=Int.emod_nonneg n7 (show(m:Int)≠0 by omega);omega⟩
 rw[ho1]
 generalize n7 / (m:Int)=n8
 have p8:upd H' p (.lst [.int n8]) p=some (.lst [.int n8]):=aU
 refine⟨_,rfl,_,rfl,p,n8,_,rfl,p8,mp,by show(m:Int)<_;omega,?_⟩
 dsimp only
 obtain⟨o2,ho2,o2m⟩:∃ d:Nat,n8 % (m:Int)=d/\d<m:=⟨(n8 % (m:Int)).toNat,by have:=Int.emod_nonneg n8 (show(m:Int)≠0 by omega);omega,by have:=Int.emod_lt_of_pos n8 mp;have:=Int.emod_nonneg n8 (show(m:Int)≠0 by omega);omega⟩
 rw[ho2]
 generalize n8 / (m:Int)=n9
 have e9:upd (upd H' p (.lst [.int n8])) p (.lst [.int n9])=upd H' p (.lst [.int n9]):=by funext b;unfold upd;split<;>rfl
 rw[e9]
 have t8:upd H' p (.lst [.int n9]) ti=some (.lst vs):=by rw[aV ntp];exact t7
 refine⟨_,rfl,_,rfl,rfl,_,rfl,?_⟩
 refine IX (λ hne=>?_) (λ _=>h1 o1 o2 n9 _ _)
 have hne:o1≠o2:=λ e=>by subst e;simp at hne
 refine⟨_,rfl,.inl ⟨rfl,_,SqL.of t8⟩,_,rfl,_,rfl,by show 2<=sizeLine;decide,λ tt htt=>?_⟩
 refine⟨ti,vs,_,rfl,rfl,(a_.upd htt) _ _ t8,by rw[sizeLine_eq];omega,h2 o1 o2 n9 _ _ tt o1m o2m hne htt⟩
noncomputable def iD (p : Addr)(H : Hp)(thick m sh extra : Nat)(xs : List Nat)(tb : List (Nat × Nat))(lf cl ti : Addr) : Nat -> L2.St -> Hp -> Prop := λ i σ' H' => ∃ (te : List (Nat × Nat)) (vs : List V) (n7 : Int) (pl dr tu on ot : Option V), σ' = sgW p thick m sh extra (.ref lf) (.ref cl) (.ref ti) pl dr tu on ot /\
      te.length <= i /\ (∀ t ∈ te, t.1 < m /\ t.2 < m /\ t.1 ≠ t.2) /\ H' ti = some (.lst vs) /\ TN H' vs (tb ++ te) /\ H' cl = some (.lst (xs.map iV)) /\ H' p = some (.lst [.int n7]) /\ But p H H'
theorem L0 {D:Ends}{p:Addr}{H:Hp}{thick m sh extra:Nat}{xs:List Nat}{tb:List (Nat×Nat)}{lf cl ti:Addr}{pl dr:Option V}{H7:Hp}{vs:List V}{n7:Int}(q:QW K p H thick D.rt)(m2:2<=m)(m8:m<=8)(perm:xs.Perm (List.range m))
  (htl:tb.length=m-1) (htk:∀ k,k<m-1->∃ a,tb[k]?=some (a,k+1)/\a<=k) (hex2:extra<=12) (hex0:thick=0->extra=0) (ntp:ti≠p) (ntc:ti≠cl) (ncp:cl≠p) (hti0:H ti=none)
  (t7:H7 ti=some (.lst vs)) (tn7:TN H7 vs tb) (c7:H7 cl=some (.lst (xs.map iV))) (p7:H7 p=some (.lst [.int n7])) (b7:But p H H7):wD K w D (sgW p thick m sh extra (.ref lf) (.ref cl) (.ref ti) pl dr none none none) H7:=by
 have hext:((extra:Nat):Int).toNat=extra:=by omega
 refine⟨_,rfl,extra,rfl,by omega,by omega,lN (lo:=0) (n:=((extra:Nat):Int).toNat) (iD p H thick m sh extra xs tb lf cl ti)
  ⟨[],vs,n7,pl,dr,none,none,none,rfl,ag _,(λ t ht=>by cases ht),t7,(by rw[List.append_nil];exact tn7),c7,p7,b7⟩ ?_ ?_⟩
 ·clear t7 tn7 c7 p7 b7
  rintro i σ' H' hi ⟨te,vs,n7,pl,dr,tu,on,ot,rfl,tel,teo,t7,tn7,c7,p7,b7⟩
  have hvl:=tn7.len
  rw[List.length_append,htl]at hvl
  have tx (n9:Int):cF H' (upd H' p (.lst [.int n9])):=cF.upd (by rw[p7];trivial)
  refine Ki (by omega) m8 p7 t7 ntp (by omega) (λ o1 o2 n9 on ot=>⟨te,vs,n9,_,_,_,_,_,rfl,by omega,teo,?_,tn7.text (tx n9),?_,aU,b7.wO⟩) λ o1 o2 n9 on ot tt o1m o2m hne htt=>?_
  ·rw[aV ntp];exact t7
  ·rw[aV ncp];exact c7
  ·have t8:upd H' p (.lst [.int n9]) ti=some (.lst vs):=by rw[aV ntp];exact t7
   have c8:upd H' p (.lst [.int n9]) cl=some (.lst (xs.map iV)):=by rw[aV ncp];exact c7
   have p8:upd H' p (.lst [.int n9]) p=some (.lst [.int n9]):=aU
   have b8:But p H (upd H' p (.lst [.int n9])):=b7.wO
   have tn8:=tn7.text (tx n9)
   generalize upd H' p (.lst [.int n9])=H8 at tn8 t8 c8 p8 b8 htt
   have sm:a_ H8 (upd H8 tt (.tup [.int o1,.int o2])):=a_.upd htt
   have tt0:H tt=none:=b8.none htt (Ne.symm (bw p8 htt))
   have b9:=b8.new tt0 (o:=.tup [.int o1,.int o2])
   have tu9:upd H8 tt (.tup [.int o1,.int o2]) tt=some (.tup [.int o1,.int o2]):=aU
   have t9:=sm _ _ t8
   have c9:=sm _ _ c8
   have p9:=sm _ _ p8
   have tn9:=tn8.text sm.text
   generalize upd H8 tt (.tup [.int o1,.int o2])=H9 at b9 tu9 t9 c9 p9 tn9
   have tx:cF H9 (upd H9 ti (.lst (vs++[.ref tt]))):=cF.upd (by rw[t9];trivial)
   refine⟨te++[(o1,o2)],vs++[.ref tt],n9,_,_,_,_,_,rfl,by rw[List.length_append,List.length_singleton];omega,λ t ht=>?_,aU,?_,by rw[aV (Ne.symm ntc)];exact c9,by rw[aV (Ne.symm ntp)];exact p9,b9.new hti0⟩
   ·rcases List.mem_append.mp ht with z | z
    ·exact teo t z
    ·rw[List.mem_singleton.mp z];exact⟨o1m,o2m,hne⟩
   ·rw[<-List.append_assoc]
    exact(tn9.snoc (t:=(o1,o2)) tu9).text tx
 ·clear t7 tn7 c7 p7 b7
  rintro σ' H' ⟨te,vs,n7,pl,dr,tu,on,ot,rfl,tel,teo,t7,tn7,c7,p7,b7⟩
  rw[hext]at tel
  exact LZ (D:=D) q ⟨m2,m8,perm,htl,htk,teo,by omega⟩ (λ h0=>List.length_eq_zero_iff.mp (by have:=hex0 h0;omega)) t7 tn7 c7 p7 b7 (by rw[List.length_append];omega)
theorem Kj {D:Ends}{p:Addr}{thick m sh extra i:Nat}{lf cl ti:Addr}{dr tu on ot:Option V}{H':Hp}{vs:List V}{n7:Int}(hi:i<8)(sh4:sh<4)(p7:H' p=some (.lst [.int n7]))(t7:H' ti=some (.lst vs))(ntp:ti≠p)(hvl:vs.length<=60)
  (h:∀ (a dr':Nat) (n8:Int) q4 tu',a<=i->upd H' p (.lst [.int n8]) q4=none->upd (upd H' p (.lst [.int n8])) q4 (.lst [V.int (1+(i:Int)-1),iV dr',iV dr',V.int 0]) tu'=none ->
   D.nx (sgW p thick m sh extra (.ref lf) (.ref cl) (.ref ti) (some (.int (1+(i:Int)))) (some (iV dr')) tu on ot) (upd (upd (upd (upd H' p (.lst [.int n8])) q4 (.lst [V.int (1+(i:Int)-1),iV dr',iV dr',V.int 0])) tu' (.tup [iV a,.int (1+(i:Int))])) ti (.lst (vs++[.ref tu'])))) :
  b1 K D (sgW p thick m sh extra (.ref lf) (.ref cl) (.ref ti) (some (.int (1+(i:Int)))) dr tu on ot) H':=by
 refine⟨_,rfl,_,rfl,p,n7,_,rfl,p7,by omega,by omega,?_⟩
 dsimp only
 obtain⟨dr',hdr,dri⟩:∃ d:Nat,n7 % (1+(i:Int))=d/\d<=i:=⟨(n7 % (1+(i:Int))).toNat,by have:=Int.emod_nonneg n7 (show(1+(i:Int))≠0 by omega);omega,by have:=Int.emod_lt_of_pos n7 (show(0:Int)<1+(i:Int) by omega);have:=Int.emod_nonneg n7 (show(1+(i:Int))≠0 by omega);omega⟩
 rw[hdr]
 generalize n7 / (1+(i:Int))=n8
 have t8:upd H' p (.lst [.int n8]) ti=some (.lst vs):=by rw[aV ntp];exact t7
 obtain⟨pa',hpa,pai⟩:∃ a:Nat,([V.int (1+(i:Int)-1),iV dr',iV dr',V.int 0]:List V)[sh]?=some (iV a)/\a<=i:=by
  rcases (by omega:sh=0\/sh=1\/sh=2\/sh=3) with rfl | rfl | rfl | rfl
  ·exact⟨i,by simp[iV];omega,by omega⟩
  ·exact⟨dr',rfl,dri⟩
  ·exact⟨dr',rfl,dri⟩
  ·exact⟨0,rfl,by omega⟩
 refine⟨_,rfl,.inl ⟨rfl,_,SqL.of t8⟩,_,rfl,_,_,rfl,rfl,_,rfl,_,rfl,by show 4<=sizeLine;decide,λ q4 hq4=>?_⟩
 refine⟨_,rfl,q4,_,_,iV pa',rfl,rfl,SqL.of aU,iY hpa,_,rfl,by show 2<=sizeLine;decide,λ tu htu=>?_⟩
 exact⟨ti,vs,_,rfl,rfl,((a_.upd hq4).trans (a_.upd htu)) _ _ t8,by rw[sizeLine_eq];omega,h pa' dr' n8 q4 tu pai hq4 htu⟩
noncomputable def iC (p : Addr)(H : Hp)(thick m sh extra : Nat)(xs : List Nat)(lf cl ti : Addr) : Nat -> L2.St -> Hp -> Prop := λ i σ' H' => ∃ (tb : List (Nat × Nat)) (vs : List V) (n7 : Int) (pl dr : Option V), σ' = sgW p thick m sh extra (.ref lf) (.ref cl) (.ref ti) pl dr none none none /\
      tb.length = i /\ (∀ k, k < i -> ∃ a, tb[k]? = some (a, k + 1) /\ a <= k) /\ H' ti = some (.lst vs) /\ TN H' vs tb /\ H' cl = some (.lst (xs.map iV)) /\ H' p = some (.lst [.int n7]) /\ But p H H'
theorem L1 {D:Ends}{p:Addr}{H:Hp}{thick m sh extra:Nat}{xs:List Nat}{lf cl:Addr}{H6:Hp}{n5:Int}(q:QW K p H thick D.rt)(m2:2<=m)(m8:m<=8)(sh4:sh<4)(perm:xs.Perm (List.range m))(hex2:extra<=12)(hex0:thick=0->extra=0)(ncp:cl≠p)
  (c6:H6 cl=some (.lst (xs.map iV))) (p6:H6 p=some (.lst [.int n5])) (b6:But p H H6):wC K w D [some (.ref p),some (.int 8),some (iV thick),some (iV m),some (iV sh),some (iV extra),some (.ref lf),some (.ref cl),none,none,none,none,none,none] H6:=by
 refine⟨Nat.zero_le _,λ ti hti=>?_⟩
 have ntp:ti≠p:=λ z=>by subst z;rw[p6]at hti;cases hti
 have ntc:ti≠cl:=λ z=>by subst z;rw[c6]at hti;cases hti
 have hti0:H ti=none:=b6.none hti ntp
 have hm1:((m:Int)-1).toNat=m-1:=by omega
 refine⟨_,rfl,1,m,rfl,⟨by omega,by omega,by omega,by omega⟩,lN (lo:=1) (n:=((m:Int)-1).toNat) (iC p H thick m sh extra xs lf cl ti)
  ⟨[],[],n5,none,none,rfl,rfl,λ k hk=>by omega,aU,.nil,by rw[aV (Ne.symm ntc)];exact c6,by rw[aV (Ne.symm ntp)];exact p6,b6.new hti0⟩ ?_ ?_⟩
 ·clear c6 p6 b6
  rintro i σ' H' hi ⟨tb,vs,n7,pl,dr,rfl,htl,htk,t7,tn7,c7,p7,b7⟩
  have hi1:i<m-1:=by omega
  refine Kj (by omega) sh4 p7 t7 ntp (by rw[tn7.len];omega) λ pa' dr' n8 q4 tu pai hq4 htu=>?_
  have tn8:=tn7.text (cF.upd (o:=.lst [.int n8]) (by rw[p7];trivial))
  have t8:upd H' p (.lst [.int n8]) ti=some (.lst vs):=by rw[aV ntp];exact t7
  have c8:upd H' p (.lst [.int n8]) cl=some (.lst (xs.map iV)):=by rw[aV ncp];exact c7
  have p8:upd H' p (.lst [.int n8]) p=some (.lst [.int n8]):=aU
  have b8:But p H (upd H' p (.lst [.int n8])):=b7.wO
  generalize upd H' p (.lst [.int n8])=H8 at tn8 t8 c8 p8 b8 hq4 htu
  clear tn7 t7 c7 p7 b7
  generalize [V.int (1+(i:Int)-1),iV dr',iV dr',V.int 0]=l4 at htu
  have ntq:tu≠q4:=λ y=>by rw[y,aU]at htu;cases htu
  have htu8:H8 tu=none:=by rw[aV ntq]at htu;exact htu
  have q40:H q4=none:=b8.none hq4 (Ne.symm (bw p8 hq4))
  have tu0:H tu=none:=b8.none htu8 (Ne.symm (bw p8 htu8))
  have sm:a_ H8 (upd (upd H8 q4 (.lst l4)) tu (.tup [iV pa',.int (1+(i:Int))])):=(a_.upd hq4).trans (a_.upd htu)
  have b9:=(b8.new q40 (o:=.lst l4)).new tu0 (o:=.tup [iV pa',.int (1+(i:Int))])
  have tu9:upd (upd H8 q4 (.lst l4)) tu (.tup [iV pa',.int (1+(i:Int))]) tu=some (.tup [iV pa',.int (1+(i:Int))]):=aU
  have t9:=sm _ _ t8
  have c9:=sm _ _ c8
  have p9:=sm _ _ p8
  have tn9:=tn8.text sm.text
  generalize upd (upd H8 q4 (.lst l4)) tu (.tup [iV pa',.int (1+(i:Int))])=H9 at b9 tu9 t9 c9 p9 tn9
  have tx:cF H9 (upd H9 ti (.lst (vs++[.ref tu]))):=cF.upd (by rw[t9];trivial)
  refine⟨tb++[(pa',i+1)],vs++[.ref tu],n8,_,_,rfl,by rw[List.length_append,List.length_singleton,htl],λ k hk=>?_,aU,?_,by rw[aV (Ne.symm ntc)];exact c9,by rw[aV (Ne.symm ntp)];exact p9,b9.new hti0⟩
  ·by_cases hki:k<i
   ·obtain⟨a,ea,ha⟩:=htk k hki
    exact⟨a,by rw[List.getElem?_append_left (by omega)];exact ea,ha⟩
   ·have:k=i:=by omega
    subst this
    exact⟨pa',by rw[List.getElem?_append_right (by omega)];simp[htl],pai⟩
  ·refine(tn9.snoc (t:=(pa',i+1)) ?_).text tx
   rw[tu9]
   simp[iV];omega
 ·rintro σ' H' ⟨tb,vs,n7,pl,dr,rfl,htl,htk,t7,tn7,c7,p7,b7⟩
  rw[hm1]at htl htk
  exact L0 (D:=D) q m2 m8 perm htl htk hex2 hex0 ntp ntc ncp hti0 t7 tn7 c7 p7 b7
theorem L3 {Q:VK}{σ:L2.St}{p lf:Addr}{L:List Nat}{n5:Int}{H':Hp}(h1:σ[1]?=some (some (.ref lf)))(h2:σ[2]?=some (some (.ref p)))(nlp:lf≠p)(hL:0<L.length)(hL8:L.length<=8)(l5:H' lf=some (.lst (L.map iV)))(p5:H' p=some (.lst [.int n5]))
  (q:∀ (j:Nat) (n6:Int) (jl:j<L.length),Q (iV L[j]) (upd (upd H' p (.lst [.int n6])) lf (.lst ((L.map iV).eraseIdx j)))):eC K σ H' Q:=by
 obtain⟨j,hj,jl⟩:∃ j:Nat,n5 % ((L.map iV).length:Int)=j/\j<L.length:=by
  rw[ah]
  exact⟨(n5 % (L.length:Int)).toNat,by have:=Int.emod_nonneg n5 (show(L.length:Int)≠0 by omega);omega,by have:=Int.emod_lt_of_pos n5 (show(0:Int)<L.length by omega);have:=Int.emod_nonneg n5 (show(L.length:Int)≠0 by omega);omega⟩
 refine⟨_,h1,.inl ⟨rfl,_,SqL.of l5⟩,_,h2,_,h1,lf,_,rfl,.inl (SqL.of l5),p,n5,_,rfl,p5,by rw[ah];omega,by rw[ah];omega,?_⟩
 rw[hj]
 have l6:upd H' p (.lst [.int (n5 / ((L.map iV).length:Int))]) lf=some (.lst (L.map iV)):=by rw[aV nlp];exact l5
 refine⟨lf,_,_,j,iV L[j],rfl,rfl,l6,by omega,by omega,?_,by simp[jl],q j _ jl⟩
 rw[ah]
 have:=seqIndex_of (k:=(j:Int)) (n:=L.length) (by omega) (by omega)
 simpa using this
noncomputable def iB (p:Addr)(H:Hp)(m:Nat)(lf:Addr):Nat->Nat->List V->Hp->Prop:=λ i mm ys H5=>mm=m-i/\i<=m/\∃ (xs L:List Nat) (n5:Int),ys=xs.map iV/\xs.length=i/\L.length=m-i/\(xs++L).Perm (List.range m)/\H5 lf=some (.lst (L.map iV))/\H5 p=some (.lst [.int n5])/\But p H H5
theorem L4 {D:Ends}{p:Addr}{H:Hp}{thick m sh extra:Nat}{lf:Addr}{H4:Hp}{n3:Int}(q:QW K p H thick D.rt)(m2:2<=m)(m8:m<=8)(sh4:sh<4)(hex2:extra<=12)(hex0:thick=0->extra=0)(nlp:lf≠p)(hlf0:H lf=none)
  (l4:H4 lf=some (.lst ((List.range m).map iV))) (p4:H4 p=some (.lst [.int n3])) (b4:But p H H4):wB K w D [some (.ref p),some (.int 8),some (iV thick),some (iV m),some (iV sh),some (iV extra),some (.ref lf),none,none,none,none,none,none,none] H4:=by
 refine⟨_,rfl,m,rfl,by omega,by omega,iB p H m lf,⟨m,rfl,Nat.zero_le _,[],List.range m,n3,rfl,rfl,by simp,by simp,l4,p4,b4⟩,?_⟩
 clear l4 p4 b4
 rintro i mm ys H5 ⟨rfl,him,xs,L,n5,rfl,hxs,hL,perm,l5,p5,b5⟩
 rcases Nat.lt_or_ge i m with him' | him'
 ·right
  refine⟨by show i<(m:Int).toNat;omega,by rw[ah,sizeLine_eq];omega,λ x H' ⟨e1,e2⟩=>?_⟩
  subst e1
  dsimp only [bT,DU]
  refine DG ?_
  refine L3 (L:=L) rfl rfl nlp (by omega) (by omega) l5 p5 λ j n6 jl=>?_
  refine⟨m-(i+1),by omega,rfl,by omega,xs++[L[j]],L.eraseIdx j,n6,by simp[iV],by simp[hxs],?_,?_,?_,by rw[aV (Ne.symm nlp)];exact aU,(b5.wO).new hlf0⟩
  ·rw[List.length_eraseIdx,ae jl];omega
  ·refine List.Perm.trans ?_ perm
   rw[List.append_assoc]
   exact List.Perm.append_left xs (tM L jl)
  ·rw[aU,u6]
 ·left
  have hi:m=i:=by omega
  subst hi
  have hL0:L=[]:=List.length_eq_zero_iff.mp (by omega)
  subst hL0
  rw[List.append_nil]at perm
  refine⟨by show(m:Int).toNat<=m;omega,λ cl hcl=>?_⟩
  have ncp:cl≠p:=λ z=>by subst z;rw[p5]at hcl;cases hcl
  exact L1 (D:=D) q m2 m8 sh4 perm hex2 hex0 ncp aU (by rw[aV (Ne.symm ncp)];exact p5) (b5.new (b5.none hcl ncp))
theorem L5 {D:Ends}{p:Addr}{H:Hp}{thick:Nat}{n:Int}(q:QW K p H thick D.rt)(hth:thick<=1)(hp:H p=some (.lst [.int n])):wA K w D [some (.ref p),some (.int 8),some (.int thick),none,none,none,none,none,none,none,none,none,none,none] H:=by
 refine⟨_,rfl,_,rfl,_,_,rfl,rfl,p,n,_,rfl,hp,by decide,by decide,_,_,rfl,rfl,?_⟩
 dsimp only
 obtain⟨m,hm,m2,m8⟩:∃ m:Nat,(2:Int)+n % (8-1)=m/\2<=m/\m<=8:=⟨(2+n % (8-1)).toNat,by omega,by omega,by omega⟩
 rw[hm]
 generalize n / (8-1)=n1
 have b1:But p H (upd H p (.lst [.int n1])):=(But.refl p H).wO
 generalize hH1:upd H p (.lst [.int n1])=H1 at b1
 have p1:H1 p=some (.lst [.int n1]):=by rw[<-hH1];exact aU
 clear hH1
 refine⟨_,rfl,p,n1,_,rfl,p1,by decide,by decide,?_⟩
 dsimp only
 obtain⟨sh,hsh,sh4⟩:∃ sh:Nat,n1 % 4=sh/\sh<4:=⟨(n1 % 4).toNat,by omega,by omega⟩
 rw[hsh]
 generalize n1 / 4=n2
 have b2:But p H (upd H1 p (.lst [.int n2])):=b1.wO
 generalize hH2:upd H1 p (.lst [.int n2])=H2 at b2
 have p2:H2 p=some (.lst [.int n2]):=by rw[<-hH2];exact aU
 clear hH2
 refine⟨by show 4<=sizeLine;decide,λ a4 h4=>?_⟩
 have np4:a4≠p:=λ z=>by subst z;rw[p2]at h4;cases h4
 have p3:upd H2 a4 (.lst [.int 0,.int 1,.int 2,.int 12]) p=some (.lst [.int n2]):=by rw[aV (Ne.symm np4)];exact p2
 refine⟨_,rfl,p,n2,_,rfl,p3,by decide,by decide,?_⟩
 dsimp only
 obtain⟨ei,hei,ei4⟩:∃ ei:Nat,n2 % 4=ei/\ei<4:=⟨(n2 % 4).toNat,by omega,by omega⟩
 rw[hei]
 generalize n2 / 4=n3
 obtain⟨ex,hex,ex12⟩:∃ ex:Nat,([V.int 0,V.int 1,V.int 2,V.int 12]:List V)[ei]?=some (.int ex)/\ex<=12:=by
  rcases (by omega:ei=0\/ei=1\/ei=2\/ei=3) with rfl | rfl | rfl | rfl
  ·exact⟨0,rfl,by omega⟩
  ·exact⟨1,rfl,by omega⟩
  ·exact⟨2,rfl,by omega⟩
  ·exact⟨12,rfl,by omega⟩
 have b3:But p H (upd (upd H2 a4 (.lst [.int 0,.int 1,.int 2,.int 12])) p (.lst [.int n3])):=(b2.new (b2.none h4 np4)).wO
 refine⟨a4,_,_,.int ex,rfl,rfl,SqL.of (by rw[aV np4];exact aU),iY hex,?_⟩
 generalize hH3:upd (upd H2 a4 (.lst [.int 0,.int 1,.int 2,.int 12])) p (.lst [.int n3])=H3 at b3
 have p3:H3 p=some (.lst [.int n3]):=by rw[<-hH3];exact aU
 clear hH3
 refine⟨_,rfl,_,_,rfl,rfl,.inl ⟨by omega,by omega⟩,?_⟩
 dsimp only
 rw[show(ex:Int)*(thick:Int)=((ex*thick:Nat):Int) by simp]
 have hex2:ex*thick<=12:=by
  have:=Nat.mul_le_mul ex12 hth
  omega
 have hex0:thick=0->ex*thick=0:=λ h=>by rw[h];simp
 generalize ex*thick=extra at hex2 hex0
 refine⟨_,rfl,_,rfl,λ r hr0=>?_⟩
 refine⟨r,m,rfl,aU,by omega,λ lf hlf=>?_⟩
 have nrp:r≠p:=λ z=>by subst z;rw[p3]at hr0;cases hr0
 have nlr:lf≠r:=λ z=>by subst z;rw[aU]at hlf;cases hlf
 have hlf3:H3 lf=none:=by rw[aV nlr]at hlf;exact hlf
 have nlp:lf≠p:=λ z=>by subst z;rw[p3]at hlf3;cases hlf3
 have hlf0:H lf=none:=b3.none hlf3 nlp
 exact L4 (D:=D) q m2 m8 sh4 hex2 hex0 nlp hlf0 aU (by rw[aV (Ne.symm nlp),aV (Ne.symm nrp)];exact p3) ((b3.new (b3.none hr0 nrp)).new hlf0)
theorem FA (T:Txt K mg):bQ P w K mg base CX0 2 T.cR.f T.cR.fd ["_law_pot_here","_law_most","_law_thick"] (Ic K):=by
 refine T.cR.F.ok bV (λ vs H Q E h=>?_) (λ cdv A outer s H vs Q E hr h=>?_)
 ·obtain⟨p,n,thick,rfl,_⟩:=h
  rfl
 ·obtain⟨p,n,thick,rfl,hth,hp,q⟩:=h
  have hu:(A.deeper (envOfC "_law_web" (aX iP) s.heap.objs.size T.cR.f cdv)).units+64<cLine:=by have:=hr.un;omega
  have hrt:fG 1 _:=hr.mono (by decide)
  refine⟨wA K w,ba (b_ (i:=3) bV.nd rfl (Or.inl rfl) (cW jr bA (cX (fW T) hrt rfl T.aY.m T.aY.F.kp T.aY.b .nil gJ (aW (pv 0) (aW (cW rB (pv 1) bA) bx)))))
   (ba (b_ (i:=4) bV.nd rfl (Or.inl rfl) (cX (fW T) hrt rfl T.aY.m T.aY.F.kp T.aY.b .nil gJ (aW (pv 0) (aW bA bx))))
   (ba (b_ (i:=5) bV.nd rfl (Or.inl rfl) (cW oQ (iF gu (jU (aW bA (aW bA (aW bA (aW bA bx))))) (cX (fW T) hrt rfl T.aY.m T.aY.F.kp T.aY.b .nil gJ (aW (pv 0) (aW bA bx))) (λ _ _=>rfl)) (pv 2)))
   (ba (b_ (i:=6) bV.nd rfl (Or.inr rfl) (jG (z3 rfl) rfl T.m6 boot_list (aW (jG yr rfl T.cS boot_range (aW (pv 3) bx)) bx)))
   (ba (b_ (i:=7) bV.nd rfl (Or.inr rfl) (HB (te:=tBM K "list" zv (bF 1) (bp (iX jC [] E0 (bp (bF 2) (bp (tCB (Kc K) (bp (bF 1) cK)) cK))) cK)) rfl (du (own:=["_law_turn"]) (fr:=["_law_left","_law_pot_here"]) (ix:=[6,0])) (jF rfl T.cS (aW (pv 3) bx)) (λ _ _ _ _=>bh (i:=0) (by show((["_law_turn"]:List Str)++(["_law_left","_law_pot_here"]:List Str)).Nodup;decide +kernel) rfl (Or.inl rfl)) cA (λ _ _ _ _=>zK)
     (λ _ _ _ _=>AN PySem.F.plainAttrs_list PySem.F.slot_list_pop PySem.F.type_list_pop Dv (pv 1) (aW (cX (fW T) hrt (by rfl) T.aY.m T.aY.F.kp T.aY.b .nil gJ (aW (pv 2) (aW (fH hE (by rfl) T.fe PySem.boot_len (aW (pv 1) bx)) bx))) bx))))
   (ba (b_ (i:=8) bV.nd rfl (Or.inl rfl) (jU bx))
   (ba (jT PassesOwn.never rfl (BY rfl T.cS (aW bA (aW (pv 3) bx))) (bh (i:=9) bV.nd rfl (Or.inl rfl))
    (ba (b_ (i:=10) bV.nd rfl (Or.inl rfl) (cX (fW T) hrt rfl T.aY.m T.aY.F.kp T.aY.b .nil gJ (aW (pv 0) (aW (pv 9) bx))))
    (bW (qM (AN PySem.F.plainAttrs_list PySem.F.slot_list_append PySem.F.type_list_append oZ (pv 8) (aW (oW (aW (iF gu (jU (aW (cW rB (pv 9) bA) (aW (pv 10) (aW (pv 10) (aW bA bx))))) (pv 4) (λ _ _=>rfl)) (aW (pv 9) bx))) bx))))))
   (ba (jT PassesOwn.never rfl (jF rfl T.cS (aW (pv 5) bx)) (bh (i:=11) bV.nd rfl (Or.inl rfl))
    (ba (b_ (i:=12) bV.nd rfl (Or.inl rfl) (cX (fW T) hrt rfl T.aY.m T.aY.F.kp T.aY.b .nil gJ (aW (pv 0) (aW (pv 3) bx))))
    (ba (b_ (i:=13) bV.nd rfl (Or.inl rfl) (cX (fW T) hrt rfl T.aY.m T.aY.F.kp T.aY.b .nil gJ (aW (pv 0) (aW (pv 3) bx))))
    (bW (rq (qN Ht (pv 12) (pv 13) (rC _)) (bW (qM (AN PySem.F.plainAttrs_list PySem.F.slot_list_append PySem.F.type_list_append oZ (pv 8) (aW (oW (aW (pv 12) (aW (pv 13) bx))) bx)))) jR)))))
   (ba (HC (i:=8) (g:=BV K 2 (mr (bT 0) (mr (bT 1) BU))) (te:=B1 (bp (tCB Kd (bp (tOp (rM K) (bF 2) (bF 0)) (bp (tOp (rM K) (bF 2) (bF 1)) cK))) (bp (tCB Ke (bp (tOp (rM K) (bF 2) (bF 0)) (bp (tOp (rM K) (bF 2) (bF 1)) cK))) cK))) bV.nd rfl (Or.inl rfl) rfl (du (own:=["_law_one","_law_other"]) (fr:=["_law_called"]) (ix:=[7])) (ve (pv 8)) (λ _ _ _ _=>eV rfl (bC (bh (i:=0) (by show((["_law_one","_law_other"]:List Str)++(["_law_called"]:List Str)).Nodup;decide +kernel) rfl (Or.inl rfl)) (bC (bh (i:=1) (by show((["_law_one","_law_other"]:List Str)++(["_law_called"]:List Str)).Nodup;decide +kernel) rfl (Or.inl rfl)) dz))) (iG (cb (by decide) (cb (by decide) f6))) (λ _ _ _ _=>zK)
     (λ _ _ _ _=>oW (aW (fH (oV (by rfl)) (by rfl) T.oE boot_min (aW (iF gu (pv 2) (pv 0) (λ _ _=>rfl)) (aW (iF gu (pv 2) (pv 1) (λ _ _=>rfl)) bx))) (aW (fH (oU (by rfl)) (by rfl) T.oF boot_max (aW (iF gu (pv 2) (pv 0) (λ _ _=>rfl)) (aW (iF gu (pv 2) (pv 1) (λ _ _=>rfl)) bx))) bx))))
   (bW (jq (oW (aW (pv 3) (aW (jG mv rfl T.df boot_tuple (aW (fH (sf rfl) rfl T.gT boot_sorted (aW (jG (DZ rfl hu) rfl T.u0 boot_set (aW (pv 8) bx)) bx)) bx)) bx))))))))))))),?_⟩
  exact L5 q hth hp
end
section
variable {P:Program}{w:World}{K:PySem.W.Frag}{mg:Str->Option Value}{base:Heap}
theorem jk (T:Txt K mg):bQ P w K mg base CX0 1 T.cM.f T.cM.fd ["a","b"] (spD K 2 cL):=by
 refine T.cM.F.ok fR (λ vs H Q E h=>?_) (λ cdv A outer s H vs Q E hr h=>?_)
 ·obtain⟨ds,d,hl,is,_⟩:=h
  rw[is.length,hl];rfl
 ·obtain⟨ds,d,hl,is,e,q⟩:=h
  obtain⟨⟨a,b⟩,e1,e2⟩:=br e
  obtain rfl:=lR e1
  clear e e1
  ·cases e2
   refine⟨_,ba (gW (i:=0) (j:=1) rfl fR.nd (aL (bG Bc T.oD boot_abs (aL (dv 0) aR)) (aL (bG Bc T.oD boot_abs (aL (dv 1) aR)) aR)))
    (ba (rz PassesOwn.never (f9 (dv 1)) (aZ (gW (i:=0) (j:=1) rfl fR.nd (aL (dv 1) (aL (eY HG (dv 0) (dv 1)) aR))))) (aZ (bB (dv 0)))),?_⟩
   refine⟨_,.nx [some (aM a.natAbs),some (aM b.natAbs)],is.start,?_,λ H1 s1 σ1 S1=>?_⟩
   ·simp[Bl,aM]
   ·refine xf (λ σ H2=>a_ H H2/\∃ x y:Nat,Sat K H2 σ [some (aM x),some (aM y)]/\Nat.gcd x y=Int.gcd a b) (intAt 1) ⟨s1,_,_,S1,rfl⟩ ?_ (λ σ H=>yq σ H)
    rintro σ H2 ⟨s2,x,y,S,hg⟩
    refine⟨_,decide (y≠0),S,?_,λ H3 s3=>?_⟩
    ·simp[zR,aM]
     rw[Bool.eq_iff_iff];simp
    ·show(if decide (y≠0)=true then _ else _)
     by_cases hy:y=0
     ·subst hy
      rw[af (by simp)]
      refine⟨_,.rt (aM x),S.ext s3,rfl,λ H4 s4 v iv=>q v H4 ((s2.trans s3).trans s4) ?_⟩
      rw[Nat.gcd_zero_right]at hg
      rw[<-hg];exact iv
     ·rw[ae (by simpa using hy)]
      refine⟨_,.nx [some (aM y),some (aM (x % y))],S.ext s3,?_,λ H4 s4 σ4 S4=>⟨⟨(s2.trans s3).trans s4,y,x % y,S4,?_⟩,?_⟩⟩
      ·have:0<y:=by omega
       simp[dIC,aM,this]
      ·rw[<-hg,Nat.gcd_comm x y,Nat.gcd_rec y x,Nat.gcd_comm]
      ·rw[nV S4 (i:=1) rfl,nV S (i:=1) rfl]
       exact Nat.mod_lt _ (by omega)
theorem tN (T:Txt K mg):bQ P w K mg base CX0 1 T.iq.f T.iq.fd ["_law_top","_law_bottom"] (spD K 2 pE):=by
 refine T.iq.F.ok kz (λ vs H Q E h=>?_) (λ cdv A outer s H vs Q E hr h=>?_)
 ·obtain⟨ds,d,hl,is,_⟩:=h
  rw[is.length,hl];rfl
 ·obtain⟨ds,d,hl,is,e,q⟩:=h
  obtain⟨a,b,rfl,hc,rfl⟩:=x_ e
  ··clear e
    obtain⟨h1,h2⟩:=iJ (a:=a) hc.1
    obtain⟨h3,h4⟩:=sG (a:=a) hc.1
    have h5:0<(Int.gcd a b:Int)/\bd (Int.gcd a b:Int):=⟨h3,HL hc.2 (by omega) h4⟩
    refine⟨_,ba (gW (i:=2) (j:=3) rfl kz.nd (aL (bG Bc T.oD boot_abs (aL (dv 0) aR)) (aL (bG Bc T.oD boot_abs (aL (dv 1) aR)) aR)))
     (ba (rz PassesOwn.never (dh (qy (bq hr)) (dv 3) bD) (aZ (gW (i:=2) (j:=3) rfl kz.nd (aL (dv 3) (aL (eY HG (dv 2) (dv 3)) aR)))))
     (bc (gL (dh Gj (dv 1) bD) (aZ (eW (i:=2) kz.nd (eY A4 bD (dv 2)))) c_) (aZ (bB (lg (aL (eY xK (dv 0) (dv 2)) (aL (eY xK (dv 1) (dv 2)) aR))))))),?_⟩
    refine⟨_,.nx [some (.int a),some (.int b),some (aM a.natAbs),some (aM b.natAbs)],is.start,?_,λ H1 s1 σ1 S1=>?_⟩
    ·simp[Bl,aM]
    ·refine xf (λ σ H2=>a_ H H2/\∃ x y:Nat,Sat K H2 σ [some (.int a),some (.int b),some (aM x),some (aM y)]/\Nat.gcd x y=Int.gcd a b) (intAt 3) ⟨s1,_,_,S1,rfl⟩ ?_ (λ σ H=>yq σ H)
     rintro σ H2 ⟨s2,x,y,S,hg⟩
     refine⟨_,decide (y≠0),S,?_,λ H3 s3=>?_⟩
     ·simp[aM]
      rw[Bool.eq_iff_iff];simp
     ·show(if decide (y≠0)=true then _ else _)
      by_cases hy:y=0
      ·subst hy
       rw[af (by simp)]
       rw[Nat.gcd_zero_right]at hg
       refine⟨_,.rt (aS (Rat.divInt a b)),S.ext s3,?_,λ H4 s4 v iv=>q v H4 ((s2.trans s3).trans s4) iv⟩
       have hnb:¬ b<0:=by omega
       unfold aS
       rw[h1,h2]
       rw[hg]
       simp[aM,hnb,dIC,h5,show b≠0 by omega]
      ·rw[ae (by simpa using hy)]
       refine⟨_,.nx [some (.int a),some (.int b),some (aM y),some (aM (x % y))],S.ext s3,?_,λ H4 s4 σ4 S4=>⟨⟨(s2.trans s3).trans s4,y,x % y,S4,?_⟩,?_⟩⟩
       ·have:0<y:=by omega
        simp[dIC,aM,this]
       ·rw[<-hg,Nat.gcd_comm x y,Nat.gcd_rec y x,Nat.gcd_comm]
       ·rw[nV S4 (i:=3) rfl,nV S (i:=3) rfl]
        exact Nat.mod_lt _ (by omega)
end
section
variable {P:Program}{w:World}{K:PySem.W.Frag}{mg:Str->Option Value}{base:Heap}
theorem jm (T:Txt K mg):bQ P w K mg base CX0 2 T.eD.f T.eD.fd ["top","bottom"] (spD K 2 cn):=T.eD.F.okD (g:=mO) qk (λ cdv A outer s H E hr=>(bc (eW (i:=2) qk.nd (dC T.cM (jk T) (hr.mono (by decide)) (aL (dv 0) (aL (dv 1) aR)))) (aZ (bB (lg (aL (eY xK (dv 0) (dv 2)) (aL (eY xK (dv 1) (dv 2)) aR))))))) yb
theorem Hl (T:Txt K mg):bQ P w K mg base CX0 3 T.tI.f T.tI.fd ["one","other"] (spD K 2 mN):=T.tI.F.okD (g:=zX) Hf (λ cdv A outer s H E hr=>(aZ (bB (dC T.eD (jm T) (hr.mono (by decide)) (aL (eY D_ (eY i9 (di (dv 0) bD) (di (dv 1) bD)) (eY i9 (di (dv 1) bD) (di (dv 0) bD))) (aL (eY i9 (di (dv 0) bD) (di (dv 1) bD)) aR)))))) Bf
theorem FC (T:Txt K mg):bQ P w K mg base CX0 3 T.oA.f T.oA.fd ["one","other"] (spD K 2 jZ):=T.oA.F.okD (g:=vL) Fn (λ cdv A outer s H E hr=>(aZ (bB (dC T.eD (jm T) (hr.mono (by decide)) (aL (eY i9 (di (dv 0) bD) (di (dv 1) bD)) (aL (eY i9 (di (dv 0) bD) (di (dv 1) bD)) aR)))))) yc
theorem FD (T:Txt K mg):bQ P w K mg base CX0 4 T.oB.f T.oB.fd ["fractions"] (spD K 1 nM):=T.oB.F.okD (g:=vM) oy (λ cdv A outer s H E hr=>(bc (eW (i:=1) oy.nd (zO T.Ft T.Fu T.Fv)) (bc (vE PassesOwn.never rfl (gZ (dv 0)) (bh (i:=2) oy.nd rfl (Or.inl rfl)) cZ (aZ (eW (i:=1) oy.nd (dC T.tI (Hl T) (hr.mono (by decide)) (aL (dv 1) (aL (dv 2) aR)))))) (aZ (bB (dv 1)))))) Ew
theorem tO (T:Txt K mg):bQ P w K mg base CX0 2 T.fb.f T.fb.fd ["thing"] (spD K 1 e_):=T.fb.F.okD (g:=jw) iQ (λ cdv A outer s H E hr=>(bc (gL (xG (qf (f7 (f9 (bG sD T.bS boot_isinstance (aL (dv 0) (aL (zP T.df boot_tuple) aR))))) (la (dh (qy (bq hr)) (bG kG T.fe PySem.boot_len (aL (dv 0) aR)) bD)))) (aZ (bB o9)) c_) (bc (lj (dv 0) (eV rfl (bC (bh (i:=1) iQ.nd rfl (Or.inl rfl)) (bC (bh (i:=2) iQ.nd rfl (Or.inl rfl)) dz))) d8) (bc (gL (xG (qf (f7 (f9 (dC T.eA (jj T) (hr.mono (by decide)) (aL (dv 1) aR)))) (la (f7 (f9 (dC T.eA (jj T) (hr.mono (by decide)) (aL (dv 2) aR))))))) (aZ (bB o9)) c_) (aZ (bB (sj (si MG (dv 2) bD) (uK (si (vH (bq hr)) (dC T.cM (jk T) (hr.mono (by decide)) (aL (dv 1) (aL (dv 2) aR))) bD))))))))) sH
theorem pW (T:Txt K mg):bQ P w K mg base CX0 3 T.dU.f T.dU.fd ["thing","many"] (spD K 2 fh):=T.dU.F.okD (g:=g0) pQ (λ cdv A outer s H E hr=>(bc (gL (xG (qf (f7 (f9 (bG sD T.bS boot_isinstance (aL (dv 0) (aL (zP T.df boot_tuple) aR))))) (la (dh (qy (bq hr)) (bG kG T.fe PySem.boot_len (aL (dv 0) aR)) (dv 1))))) (aZ (bB o9)) c_) (aZ (bB (bG (Ep rfl) T.qp boot_all (aL (nF rfl (du (own:=["one"]) (fr:=[]) (ix:=[])) (gZ (dv 0)) (λ _ _ _ _=>(bh (i:=0) (by show((["one"]:List Str)++([]:List Str)).Nodup;decide +kernel) rfl (Or.inl rfl))) cA cZ (λ _ _ _ _=>fK) (λ _ _ _ _=>(dC T.fb (tO T) (hr.mono (by decide)) (aL (dv 0) aR)))) aR)))))) pC
theorem CP (T:Txt K mg):bQ P w K mg base CX0 4 T.lK.f T.lK.fd ["thing"] (spD K 1 nO):=T.lK.F.okD (g:=sN) pS (λ cdv A outer s H E hr=>(bc (gL (xG (qf (f7 (f9 (bG sD T.bS boot_isinstance (aL (dv 0) (aL (zP T.df boot_tuple) aR))))) (la (dh (qy (bq hr)) (bG kG T.fe PySem.boot_len (aL (dv 0) aR)) bD)))) (aZ (bB o9)) c_) (bc (lj (dv 0) (eV rfl (bC (bh (i:=1) pS.nd rfl (Or.inr rfl)) (bC (bh (i:=2) pS.nd rfl (Or.inl rfl)) dz))) d8) (bc (gL (xG (qf (f7 (f9 (dC T.eA (jj T) (hr.mono (by decide)) (aL (dv 1) aR)))) (la (f7 (D1 Jl Jl (zO T.kI T.kJ T.kK) (dv 1) (zO T.mE T.mG T.mH)))))) (aZ (bB o9)) c_) (bc (gL (xG (qf (f7 (f9 (bG sD T.bS boot_isinstance (aL (dv 2) (aL (zP T.df boot_tuple) aR))))) (la (f7 (f9 (bG (Ep rfl) T.qp boot_all (aL (nF rfl (du (own:=["tie"]) (fr:=["many"]) (ix:=[1])) (gZ (dv 2)) (λ _ _ _ _=>(bh (i:=0) (by show((["tie"]:List Str)++(["many"]:List Str)).Nodup;decide +kernel) rfl (Or.inl rfl))) cA cZ (λ _ _ _ _=>fK) (λ _ _ _ _=>(dC T.lJ (CM T) (hr.mono (by decide)) (aL (dv 1) (aL (dv 0) aR))))) aR))))))) (aZ (bB o9)) c_) (aZ (bB (sj (dC T.gQ (wM T) (hr.mono (by decide)) (aL (dv 2) aR)) (uK (si (vH (bq hr)) (bG Jq T.fe PySem.boot_len (aL (dC T.eE (kD T) (hr.mono (by decide)) (aL (dv 2) (aL bD aR))) aR)) (dv 1))))))))))) Cu
theorem eT (T:Txt K mg):bQ P w K mg base CX0 5 T.cJ.f T.cJ.fd ["thing"] (spD K 1 de):=T.cJ.F.okD (g:=lD) wH (λ cdv A outer s H E hr=>(aZ (gL (f7 (f9 (dC T.lK (CP T) (hr.mono (by decide)) (aL (dv 0) aR)))) (aZ nG) c_))) vO
theorem dF (T:Txt K mg):bQ P w K mg base CX0 3 T.bZ.f T.bZ.fd ["web","thing"] (spD K 2 bR):=T.bZ.F.okD (g:=jx) tH (λ cdv A outer s H E hr=>(aZ (gL (f7 (f9 (dC T.fv (lL T) (hr.mono (by decide)) (aL (di (dv 0) bD) (aL (dv 1) aR))))) (aZ nG) c_))) sP
theorem wQ (T:Txt K mg):bQ P w K mg base CX0 1 T.gR.f T.gR.fd ["a","b"] (spD K 2 i_):=T.gR.F.okD (g:=lH) wI (λ cdv A outer s H E hr=>(aZ (gL (dh (vH (bq hr)) (dv 0) (dv 1)) (aZ nG) c_))) wu
theorem uo (T:Txt K mg):bQ P w K mg base CX0 6 T.fT.f T.fT.fd ["web","a","b"] (spD K 3 hG):=T.fT.F.okD (g:=kh) uh (λ cdv A outer s H E hr=>(bc (dH (dC T.cJ (eT T) (hr.mono (by decide)) (aL (dv 0) aR))) (bc (dH (dC T.bZ (dF T) (hr.mono (by decide)) (aL (dv 0) (aL (dv 1) aR)))) (bc (dH (dC T.bZ (dF T) (hr.mono (by decide)) (aL (dv 0) (aL (dv 2) aR)))) (aZ (dH (dC T.gR (wQ T) (hr.mono (by decide)) (aL (dv 1) (aL (dv 2) aR))))))))) ug
theorem qJ (T:Txt K mg):bQ P w K mg base CX0 2 T.eG.f T.eG.fd ["ties","far","here"] (spD K 3 fN):=T.eG.F.okD (g:=iO) qG (λ cdv A outer s H E hr=>(aZ (bB (di (nF rfl (du (own:=["near"]) (fr:=["far","here"]) (ix:=[1,2])) (gZ (dC T.fF (kA T) (hr.mono (by decide)) (aL (dv 0) (aL (dv 2) aR)))) (λ _ _ _ _=>(bh (i:=0) (by show((["near"]:List Str)++(["far","here"]:List Str)).Nodup;decide +kernel) rfl (Or.inl rfl))) cA cZ (λ _ _ _ _=>(sx (dh Gj (yA (Nat.lt_of_succ_lt (bq hr)) (dv 1) (dv 0)) (yA (Nat.lt_of_succ_lt (bq hr)) (dv 1) (dv 2))))) (λ _ _ _ _=>(dv 0))) bD)))) qE
theorem tP (T:Txt K mg):bQ P w K mg base CX0 3 T.fc.f T.fc.fd ["ties","a","b"] (spD K 3 gx):=T.fc.F.okD (g:=gy) iR (λ cdv A outer s H E hr=>(bc (eW (i:=3) iR.nd (lg (aL (bG (El rfl) T.oE boot_min (aL (dv 1) (aL (dv 2) aR))) (aL (bG (Em rfl) T.oF boot_max (aL (dv 1) (aL (dv 2) aR))) aR)))) (bc (xI (i:=4) iR.nd rfl (du (own:=["other"]) (fr:=["tie"]) (ix:=[3])) (gZ (dv 0)) (λ _ _ _ _=>(bh (i:=0) (by show((["other"]:List Str)++(["tie"]:List Str)).Nodup;decide +kernel) rfl (Or.inl rfl))) cA cZ (λ _ _ _ _=>(sx (dh (qy (bq hr)) (dv 0) (dv 1)))) (λ _ _ _ _=>(dv 0))) (aZ (bB (iH lS T.df boot_tuple (aL (bG (Cz srt lx sE rfl) T.gT boot_sorted (aL (dC T.eE (kD T) (hr.mono (by decide)) (aL (dv 4) (aL (dv 2) aR))) aR)) aR))))))) tj
theorem Aq (T:Txt K mg):bQ P w K mg base CX0 6 T.jO.f T.jO.fd ["web"] (spD K 1 lZ):=T.jO.F.okD (g:=pK) mZ (λ cdv A outer s H E hr=>(bc (dH (dC T.cJ (eT T) (hr.mono (by decide)) (aL (dv 0) aR))) (bc (lj (dv 0) (eV rfl (bC (bh (i:=1) mZ.nd rfl (Or.inl rfl)) (bC (bh (i:=2) mZ.nd rfl (Or.inl rfl)) dz))) d8) (aZ (bB (si (vH (bq hr)) (bG kG T.fe PySem.boot_len (aL (dv 2) aR)) (eY A4 (dv 1) bD))))))) z8
theorem uq (T:Txt K mg):bQ P w K mg base CX0 7 T.fU.f T.fU.fd ["thing"] (spD K 1 eP):=T.fU.F.okD (g:=j9) ui (λ cdv A outer s H E hr=>(aZ (gL (f7 (f9 (dC T.jO (Aq T) (hr.mono (by decide)) (aL (dv 0) aR)))) (aZ nG) c_))) ud
theorem ur (T:Txt K mg):bQ P w K mg base CX0 1 T.fV.f T.fV.fd ["places"] (spD K 1 fO):=T.fV.F.okD (g:=kc) uj (λ cdv A outer s H E hr=>(aZ (bB (eY A4 (eY i9 bD (dv 0)) bD)))) ue
theorem oG (T:Txt K mg):bQ P w K mg base CX0 6 T.ji.f T.ji.fd ["web"] (spD K 1 gw):=T.ji.F.okD (g:=vP) Fo (λ cdv A outer s H E hr=>(bc (dH (dC T.cJ (eT T) (hr.mono (by decide)) (aL (dv 0) aR))) (aZ (bB (iH lS T.df boot_tuple (aL (nF rfl (du (own:=["degree"]) (fr:=["web"]) (ix:=[0])) (gZ (dC T.ip (tL T) (hr.mono (by decide)) (aL (dv 0) aR))) (λ _ _ _ _=>(bh (i:=0) (by show((["degree"]:List Str)++(["web"]:List Str)).Nodup;decide +kernel) rfl (Or.inl rfl))) cA cZ (λ _ _ _ _=>fK) (λ _ _ _ _=>(dC T.eD (jm T) (hr.mono (by decide)) (aL (dv 0) (aL (eY i9 bD (bG kG T.fe PySem.boot_len (aL (di (dv 1) bD) aR))) aR))))) aR)))))) Ez
theorem Ar (T:Txt K mg):bQ P w K mg base CX0 1 T.jN.f T.jN.fd ["row","lead","at","former"] (spD K 4 ie):=T.jN.F.okD (g:=pM) An (λ cdv A outer s H E hr=>(aZ (bB (nF rfl (du (own:=["one","other"]) (fr:=["former","lead","at","row"]) (ix:=[3,1,2,0])) (HI false false T.tJ (aL (dv 0) (aL (dv 1) aR))) (λ _ _ _ _=>(eV rfl (bC (bh (i:=0) (by show((["one","other"]:List Str)++(["former","lead","at","row"]:List Str)).Nodup;decide +kernel) rfl (Or.inl rfl)) (bC (bh (i:=1) (by show((["one","other"]:List Str)++(["former","lead","at","row"]:List Str)).Nodup;decide +kernel) rfl (Or.inl rfl)) dz)))) (iG (cb (by decide) (cb (by decide) f6))) d8 (λ _ _ _ _=>fK) (λ _ _ _ _=>(eY xK (eY A4 (eY i9 (di (dv 3) (dv 4)) (dv 0)) (eY i9 (di (dv 5) (dv 4)) (dv 1))) (dv 2))))))) Ae
theorem CQ (T:Txt K mg):bQ P w K mg base CX0 3 T.lI.f T.lI.fd ["rows"] (spD K 1 jM):=T.lI.F.okD (g:=tE) gf (λ cdv A outer s H E hr=>(bc (eW (i:=1) gf.nd (iH ES T.m6 boot_list (aL (dv 0) aR))) (bc (eW (i:=2) gf.nd bD) (bc (vE PassesOwn.never rfl (jY T.cS (aL (bG kG T.fe PySem.boot_len (aL (dv 0) aR)) aR)) (bh (i:=3) gf.nd rfl (Or.inr rfl)) cZ (bc (eW (i:=4) gf.nd (di (dv 1) (dv 3))) (bc (xI (i:=1) gf.nd rfl (du (own:=["k","row"]) (fr:=["at","lead","former"]) (ix:=[3,4,2])) (By false T.eK (aL (dv 1) aR)) (λ _ _ _ _=>(eV rfl (bC (bh (i:=0) (by show((["k","row"]:List Str)++(["at","lead","former"]:List Str)).Nodup;decide +kernel) rfl (Or.inl rfl)) (bC (bh (i:=1) (by show((["k","row"]:List Str)++(["at","lead","former"]:List Str)).Nodup;decide +kernel) rfl (Or.inl rfl)) dz)))) (iG (cb (by decide) (cb (by decide) f6))) d8 (λ _ _ _ _=>fK) (λ _ _ _ _=>(KY (dh (vH (bq hr)) (dv 0) (dv 2)) (dv 1) (dC T.jN (Ar T) (hr.mono (by decide)) (aL (dv 1) (aL (dv 3) (aL (dv 2) (aL (dv 4) aR)))))))) (aZ (eW (i:=2) gf.nd (di (dv 4) (dv 3))))))) (aZ (bB (iH lS T.df boot_tuple (aL (nF rfl (du (own:=["row"]) (fr:=["former"]) (ix:=[2])) (gZ (dv 1)) (λ _ _ _ _=>(bh (i:=0) (by show((["row"]:List Str)++(["former"]:List Str)).Nodup;decide +kernel) rfl (Or.inl rfl))) cA cZ (λ _ _ _ _=>fK) (λ _ _ _ _=>(dC T.eD (jm T) (hr.mono (by decide)) (aL (di (dv 0) (HQ bD)) (aL (dv 1) aR))))) aR)))))))) CJ
theorem kE (T:Txt K mg):bQ P w K mg base CX0 2 T.eJ.f T.eJ.fd ["_law_one","_law_other"] (spD K 2 cH):=T.eJ.F.okD (g:=qh) wK (λ cdv A outer s H E hr=>(aZ (bB (dC T.iq (tN T) (hr.mono (by decide)) (aL (eY D_ (eY i9 (di (dv 0) bD) (di (dv 1) bD)) (eY i9 (di (dv 1) bD) (di (dv 0) bD))) (aL (eY i9 (di (dv 0) bD) (di (dv 1) bD)) aR)))))) vT
theorem jD (T:Txt K mg):bQ P w K mg base CX0 2 T.dO.f T.dO.fd ["_law_one","_law_other"] (spD K 2 cy):=T.dO.F.okD (g:=nP) uk (λ cdv A outer s H E hr=>(aZ (bB (dC T.iq (tN T) (hr.mono (by decide)) (aL (eY i9 (di (dv 0) bD) (di (dv 1) bD)) (aL (eY i9 (di (dv 0) bD) (di (dv 1) bD)) aR)))))) ub
theorem mI (T:Txt K mg):bQ P w K mg base CX0 3 T.eS.f T.eS.fd ["_law_some"] (spD K 1 dJ):=T.eS.F.okD (g:=j5) gE (λ cdv A outer s H E hr=>(bc (eW (i:=1) gE.nd (lg (aL bD (aL bD aR)))) (bc (vE PassesOwn.never rfl (gZ (dv 0)) (bh (i:=2) gE.nd rfl (Or.inl rfl)) cZ (aZ (eW (i:=1) gE.nd (dC T.eJ (kE T) (hr.mono (by decide)) (aL (dv 1) (aL (dv 2) aR)))))) (aZ (bB (dv 1)))))) uc
theorem wR (T:Txt K mg):bQ P w K mg base CX0 1 T.gS.f T.gS.fd ["_law_web_here","_law_place"] (spD K 2 gO):=T.gS.F.okD (g:=lG) wL (λ cdv A outer s H E hr=>(aZ (bB (nF rfl (du (own:=["_law_other"]) (fr:=["_law_web_here","_law_place"]) (ix:=[0,1])) (jY T.cS (aL (di (dv 0) bD) aR)) (λ _ _ _ _=>(bh (i:=0) (by show((["_law_other"]:List Str)++(["_law_web_here","_law_place"]:List Str)).Nodup;decide +kernel) rfl (Or.inl rfl))) cA cZ (λ _ _ _ _=>(sx (dh (Ng (bq hr)) (lg (aL (bG (El rfl) T.oE boot_min (aL (dv 2) (aL (dv 0) aR))) (aL (bG (Em rfl) T.oF boot_max (aL (dv 2) (aL (dv 0) aR))) aR))) (di (dv 1) bD)))) (λ _ _ _ _=>(dv 0)))))) wa
end
section
variable {P:Program}{w:World}{K:PySem.W.Frag}{mg:Str->Option Value}{base:Heap}
theorem yX (T:Txt K mg):bQ P w K mg base CX0 2 T.iS.f T.iS.fd ["web","place","given","added"] (spD K 4 kd):=by
 refine T.iS.F.ok fC (λ vs H Q E h=>?_) (λ cdv A outer s H vs Q E hr h=>?_)
 ·obtain⟨ds,d,hl,is,_⟩:=h
  rw[is.length,hl];rfl
 ·obtain⟨ds,d,hl,is,e,q⟩:=h
  match ds,e with
  | [x,y,.dct kvs,.lst es],e =>
   obtain⟨v,e1,f1⟩:=aQ (show(dW x).bind _=_ from e)
   obtain⟨b,e2,f2⟩:=aQ f1
   obtain⟨as,e3,f3⟩:=aQ f2
   by_cases hc:b<v.1/\as.length=v.1
   ·rw[ae hc]at f3
    cases f3
    clear e f1 f2
    obtain⟨rfl,hg⟩:=d4 e1
    have e2:=bJ e2
    have e3:=fA e3
    subst e2 e3
    refine⟨LJ K,ba (lj (dv 0) (eV rfl (bC (bh (i:=4) fC.nd rfl (Or.inl rfl)) (bC (bh (i:=5) fC.nd rfl (Or.inl rfl)) dz))) d8)
     (ba (b_ (i:=6) fC.nd rfl (Or.inl rfl) (cW Dw (jU (aW bA bx)) (pv 4)))
     (ba (rq (C8 (IU (DF hr) (pv 1) (pv 2)) (by with_unfolding_all rfl)) (ba (oN bA (vd (pv 6) (pv 1) set_list)) (bW (bB (eY Ei (dv 6) (D2 (aL (yA (Nat.lt_of_succ_lt (bq hr)) (dv 2) (dv 1)) aR)))))) jR)
     (ba (b_ (i:=7) fC.nd rfl (Or.inl rfl) (dC T.fF (kA T) (hr.mono (by decide)) (aL (dv 5) (aL (dv 1) aR))))
     (ba (jT PassesOwn.never rfl (Bj (dv 7)) (bh (i:=8) fC.nd rfl (Or.inl rfl)) (bW (oN (HQ bD) (vd (pv 6) (pv 8) set_list))))
     (ba (oN (bG kG T.fe PySem.boot_len (aL (dv 7) aR)) (vd (pv 6) (pv 1) set_list))
     (bW (bB (eY Ei (dv 6) (D2 (aL (di (dv 3) (dv 1)) aR)))))))))),?_⟩
    exact hg.HN hc.1 hc.2 is.start q
   ·rw[af hc]at f3;cases f3
theorem pX (T:Txt K mg):bQ P w K mg base CX0 4 T.dY.f T.dY.fd ["tree","goal"] (spD K 2 cC):=by
 refine T.dY.F.ok cx (λ vs H Q E h=>?_) (λ cdv A outer s H vs Q E hr h=>?_)
 ·obtain⟨ds,d,hl,is,_⟩:=h
  rw[is.length,hl];rfl
 ·obtain⟨ds,d,hl,is,e,q⟩:=h
  obtain⟨x,y,rfl,f1⟩:=fL e
  obtain⟨v,e1,f2⟩:=aQ f1
  obtain⟨b,e3,f3⟩:=aQ f2
  obtain⟨e4,ht⟩:=vZ e1
  obtain⟨rfl,hg⟩:=d4 e4
  have e3:=bJ e3
  subst e3
  clear e f1 f2
  by_cases hc:b<v.1
  ·rw[ae hc]at f3
   cases f3
   refine⟨kAA K,ba (lj (dv 0) (eV rfl (bC (bh (i:=2) cx.nd rfl (Or.inl rfl)) (bC (bh (i:=3) cx.nd rfl (Or.inl rfl)) dz))) d8) (ba (eW (i:=4) cx.nd (dC T.eE (kD T) (hr.mono (by decide)) (aL (dv 3) (aL (dv 1) aR))))
    (ba (b_ (i:=5) cx.nd rfl (Or.inr rfl) (qQ (kQ (pv 1) bA qP) rfl rfl (by simp) (by decide)))
    (ba (LA (jT PassesOwn.never rfl (JN (pv 4)) (bh (i:=6) cx.nd rfl (Or.inl rfl)) (bW (rq (dh (qy (bq hr)) (dv 6) (dv 1))
     (ba (b_ (i:=7) cx.nd rfl (Or.inl rfl) (dC T.eG (qJ T) (hr.mono (by decide)) (aL (dv 3) (aL (dv 4) (aL (dv 6) aR)))))
      (bW (AR (DF hr) (pv 5) (pv 6) (eY D_ (yA (Nat.lt_of_succ_lt (bq hr)) (dv 5) (dv 7)) (dC T.fV (ur T) (hr.mono (by decide)) (aL (bG kG T.fe PySem.boot_len (aL (dC T.fc (tP T) (hr.mono (by decide)) (aL (dv 3) (aL (dv 7) (aL (dv 6) aR)))) aR)) aR))) rfl)))
     jR))))
    (bW (bB (iH lS T.df boot_tuple (aL (nF rfl (du (own:=["place"]) (fr:=["found"]) (ix:=[5])) (jY T.cS (aL (dv 2) aR)) (λ _ _ _ _=>(bh (i:=0) (by show((["place"]:List Str)++(["found"]:List Str)).Nodup;decide +kernel) rfl (Or.inl rfl))) cA cZ (λ _ _ _ _=>fK) (λ _ _ _ _=>(yA (Nat.lt_of_succ_lt (bq hr)) (dv 1) (dv 0)))) aR))))))),?_⟩
   exact hg.LI ht hc is.start q
  ·rw[af hc]at f3;cases f3
theorem qq (T:Txt K mg):bQ P w K mg base CX0 4 T.gr.f T.gr.fd ["web","given","added"] (spD K 3 fu):=T.gr.F.okD (g:=mV) yT (λ cdv A outer s H E hr=>(aZ (bB (dC T.lI (CQ T) (hr.mono (by decide)) (aL (nF rfl (du (own:=["place"]) (fr:=["web","given","added"]) (ix:=[0,1,2])) (jY T.cS (aL (di (dv 0) bD) aR)) (λ _ _ _ _=>(bh (i:=0) (by show((["place"]:List Str)++(["web","given","added"]:List Str)).Nodup;decide +kernel) rfl (Or.inl rfl))) cA cZ (λ _ _ _ _=>fK) (λ _ _ _ _=>(dC T.iS (yX T) (hr.mono (by decide)) (aL (dv 1) (aL (dv 0) (aL (dv 2) (aL (dv 3) aR))))))) aR))))) yM
theorem jP (T:Txt K mg):bQ P w K mg base CX0 6 T.gF.f T.gF.fd ["web","goal"] (spD K 2 fi):=T.gF.F.okD (g:=we) Fp (λ cdv A outer s H E hr=>(bc (dH (dC T.cJ (eT T) (hr.mono (by decide)) (aL (dv 0) aR))) (bc (dH (dC T.bZ (dF T) (hr.mono (by decide)) (aL (dv 0) (aL (dv 1) aR)))) (aZ (bB (dC T.gr (qq T) (hr.mono (by decide)) (aL (dv 0) (aL (G6 (dv 1) bD) (aL (dC T.ip (tL T) (hr.mono (by decide)) (aL (dv 0) aR)) aR))))))))) Fe
theorem yY (T:Txt K mg):bQ P w K mg base CX0 7 T.iT.f T.iT.fd ["web","goal","thing"] (spD K 3 kg):=T.iT.F.okD (g:=mW) ql (λ cdv A outer s H E hr=>(bc (eW (i:=3) ql.nd (dC T.gF (jP T) (hr.mono (by decide)) (aL (dv 0) (aL (dv 1) aR)))) (aZ (bB (sj (dC T.dU (pW T) (hr.mono (by decide)) (aL (dv 2) (aL (bG kG T.fe PySem.boot_len (aL (dv 3) aR)) aR))) (uK (si (vH (bq hr)) (dv 2) (dv 3)))))))) yP
theorem BM (T:Txt K mg):bQ P w K mg base CX0 7 T.pU.f T.pU.fd ["web","place"] (spD K 2 pO):=T.pU.F.okD (g:=Ai) wJ (λ cdv A outer s H E hr=>(bc (dH (dC T.cJ (eT T) (hr.mono (by decide)) (aL (dv 0) aR))) (bc (dH (dC T.bZ (dF T) (hr.mono (by decide)) (aL (dv 0) (aL (dv 1) aR)))) (bc (lj (di (dC T.ji (oG T) (hr.mono (by decide)) (aL (dv 0) aR)) (dv 1)) (eV rfl (bC (bh (i:=2) wJ.nd rfl (Or.inl rfl)) (bC (bh (i:=3) wJ.nd rfl (Or.inl rfl)) dz))) d8) (aZ (bB (lg (aL (dv 3) (aL (dv 2) aR))))))))) Hb
theorem pY (T:Txt K mg):bQ P w K mg base CX0 5 T.dX.f T.dX.fd ["web","one","other"] (spD K 3 fj):=T.dX.F.okD (g:=g6) pT (λ cdv A outer s H E hr=>(aZ (bB (dC T.gr (qq T) (hr.mono (by decide)) (aL (dv 0) (aL (G7 (dv 1) bD (dv 2) bD) (aL (eY K9 (D2 (aL bD aR)) (di (dv 0) bD)) aR))))))) pP
theorem yZ (T:Txt K mg):bQ P w K mg base CX0 7 T.mj.f T.mj.fd ["web","place","one","other"] (spD K 4 oq):=T.mj.F.okD (g:=wj) Fq (λ cdv A outer s H E hr=>(bc (dH (dC T.cJ (eT T) (hr.mono (by decide)) (aL (dv 0) aR))) (bc (dH (dC T.bZ (dF T) (hr.mono (by decide)) (aL (dv 0) (aL (dv 1) aR)))) (bc (dH (dC T.fT (uo T) (hr.mono (by decide)) (aL (dv 0) (aL (dv 2) (aL (dv 3) aR))))) (aZ (bB (di (dC T.dX (pY T) (hr.mono (by decide)) (aL (dv 0) (aL (dv 2) (aL (dv 3) aR)))) (dv 1)))))))) Ff
theorem FE (T:Txt K mg):bQ P w K mg base CX0 7 T.oC.f T.oC.fd ["web"] (spD K 1 qW):=T.oC.F.okD (g:=wk) Fs (λ cdv A outer s H E hr=>(aZ (bB (dC T.oB (FD T) (hr.mono (by decide)) (aL (nF rfl (du (own:=["goal","share"]) (fr:=["web"]) (ix:=[0])) (By true T.eK (aL (dC T.ji (oG T) (hr.mono (by decide)) (aL (dv 0) aR)) aR)) (λ _ _ _ _=>(eV rfl (bC (bh (i:=0) (by show((["goal","share"]:List Str)++(["web"]:List Str)).Nodup;decide +kernel) rfl (Or.inl rfl)) (bC (bh (i:=1) (by show((["goal","share"]:List Str)++(["web"]:List Str)).Nodup;decide +kernel) rfl (Or.inl rfl)) dz)))) (iG (cb (by decide) (cb (by decide) f6))) d8 (λ _ _ _ _=>fK) (λ _ _ _ _=>(dC T.oA (FC T) (hr.mono (by decide)) (aL (dv 1) (aL (di (dC T.gF (jP T) (hr.mono (by decide)) (aL (dv 2) (aL (dv 0) aR))) bD) aR))))) aR))))) Fi
theorem y6 (T:Txt K mg):bQ P w K mg base CX0 8 T.iU.f T.iU.fd ["tree","place"] (spD K 2 j_):=T.iU.F.okD (g:=mT) yU (λ cdv A outer s H E hr=>(bc (dH (dC T.fU (uq T) (hr.mono (by decide)) (aL (dv 0) aR))) (bc (dH (dC T.bZ (dF T) (hr.mono (by decide)) (aL (dv 0) (aL (dv 1) aR)))) (aZ (bB (dC T.dY (pX T) (hr.mono (by decide)) (aL (dv 0) (aL (dv 1) aR)))))))) yH
end
theorem imW (ww:Web):Imm (bf ww):=.tup (.cons (.int _) (.cons (.tup (iW.of λ d hd=>by obtain⟨t,_,rfl⟩:=aA.mp hd;exact .tup (.cons (.int _) (.cons (.int _) .nil)))) .nil))
theorem Kk (n:Int){m:Nat}(h:0<m):∃ d:Nat,n % (m:Int)=d/\d<m:=⟨(n % (m:Int)).toNat,by have:=Int.emod_nonneg n (show(m:Int)≠0 by omega);omega,by have:=Int.emod_lt_of_pos n (show(0:Int)<m by omega);have:=Int.emod_nonneg n (show(m:Int)≠0 by omega);omega⟩
theorem Hm {a d m:Nat}(ha:a<m)(hd:d+1<m):∃ c:Nat,((a:Int)+1+(d:Int)) % (m:Int)=c/\c<m/\a≠c:=by
 by_cases h:a+1+d<m
 ·exact⟨a+1+d,by rw[Int.emod_eq_of_lt (by omega) (by omega)];omega,h,by omega⟩
 ·refine⟨a+1+d-m,?_,by omega,by omega⟩
  have e:(a:Int)+1+(d:Int)=((a+1+d-m:Nat):Int)+(m:Int):=by omega
  rw[e,Int.add_emod_right,Int.emod_eq_of_lt (by omega) (by omega)]
theorem u7 {α:Type}{l:List α}{n:Nat}(h:l.length=n+1):∃ x r,l=x::r/\r.length=n:=by
 cases l with
 | nil=>cases h
 | cons x r=>exact⟨x,r,rfl,Nat.succ.inj h⟩
theorem L6 {σ:L2.St}{v:V}(h:σ.length=14)(h0:σ[0]?=some (some v)):∃ x1 x2 x3 x4 x5 x6 x7 x8 x9 x10 x11 x12 x13:Option V,σ=[some v,x1,x2,x3,x4,x5,x6,x7,x8,x9,x10,x11,x12,x13]:=by
 obtain⟨x0,r,e0,h1⟩:=u7 h
 obtain⟨x1,r1,e1,h2⟩:=u7 h1
 obtain⟨x2,r2,e2,h3⟩:=u7 h2
 obtain⟨x3,r3,e3,h4⟩:=u7 h3
 obtain⟨x4,r4,e4,h5⟩:=u7 h4
 obtain⟨x5,r5,e5,h6⟩:=u7 h5
 obtain⟨x6,x7,x8,x9,x10,x11,x12,x13,e6⟩:=LH (σ:=r5) h6
 rw[e0]at h0
 have h0:some x0=some (some v):=h0
 rw[ao h0,e1,e2,e3,e4,e5,e6]at e0
 exact⟨x1,x2,x3,x4,x5,x6,x7,x8,x9,x10,x11,x12,x13,e0⟩
section
variable {P:Program}{w:World}{K:PySem.W.Frag}{mg:Str->Option Value}{base:Heap}
noncomputable def Ie (K:PySem.W.Frag):Sp:=λ vs H Q _=>∃ (p:Addr) (n:Int) (v:V) (ww:Web),vs=[.ref p,v]/\Good ww/\Is K H v (bf ww)/\H p=some (.lst [.int n]) /\
 ∀ (t:Addr) (a c:Nat) (n':Int) (H':Hp),a<ww.1->c<ww.1->a≠c->H' p=some (.lst [.int n'])->But p H H'->H' t=some (.tup [iV a,iV c])->Q (.ref t) H'
theorem Kl (T:Txt K mg):bQ P w K mg base CX0 2 T.fx.f T.fx.fd ["_law_pot_here","_law_web_here"] (Ie K):=by
 refine T.fx.F.ok qo (λ vs H Q E h=>?_) (λ cdv A outer s H vs Q E hr h=>?_)
 ·obtain⟨p,n,v,ww,rfl,_⟩:=h
  rfl
 ·obtain⟨p,n,v,ww,rfl,hg,iw,hp,q⟩:=h
  have hr1:fG 1 _:=hr.mono (by decide)
  refine⟨_,ba (b_ (i:=2) qo.nd rfl (Or.inl rfl) (cX (fW T) hr1 rfl T.aY.m T.aY.F.kp T.aY.b .nil gJ (aW (pv 0) (aW (iF oY (pv 1) bA (λ _ _=>rfl)) bx))))
   (bW (jq (oW (aW (pv 2) (aW (cW oR (cW jr (cW jr (pv 2) bA) (cX (fW T) hr1 rfl T.aY.m T.aY.F.kp T.aY.b .nil gJ (aW (pv 0) (aW (cW rB (iF oY (pv 1) bA (λ _ _=>rfl)) bA) bx)))) (iF oY (pv 1) bA (λ _ _=>rfl))) bx))))),?_⟩
  have w2:=hg.two
  have w8:=hg.da
  obtain⟨r,xs,rfl,hr3,is3⟩:=iw.bX
  obtain⟨v0,v1,rfl,j0,j1⟩:=is3.two
  have hv0:=j0.int_inv
  subst hv0
  have mu:Mut (H p):=by rw[hp];trivial
  refine⟨_,rfl,_,rfl,r,_,_,.int ww.1,rfl,rfl,hr3,rfl,p,n,ww.1,rfl,hp,by omega,by omega,?_⟩
  obtain⟨a,ha,am⟩:=Kk n (show 0<ww.1 by omega)
  rw[ha]
  have t1:cF H (upd H p (.lst [.int (n / (ww.1:Int))])):=cF.upd mu
  have b1:But p H (upd H p (.lst [.int (n / (ww.1:Int))])):=(But.refl p H).wO
  have hp1:upd H p (.lst [.int (n / (ww.1:Int))]) p=some (.lst [.int (n / (ww.1:Int))]):=aU
  generalize n / (ww.1:Int)=n1 at *
  generalize upd H p (.lst [.int n1])=H1 at *
  have mu1:Mut (H1 p):=by rw[hp1];trivial
  refine⟨_,rfl,_,rfl,_,_,rfl,rfl,_,rfl,_,rfl,r,_,_,.int ww.1,rfl,rfl,t1.nC hr3,rfl,_,_,rfl,rfl,p,n1,(ww.1:Int)-1,rfl,hp1,by omega,by omega,?_⟩
  obtain⟨d,hd,dm⟩:=Kk n1 (show 0<ww.1-1 by omega)
  have ec:(((ww.1-1:Nat):Int))=(ww.1:Int)-1:=by omega
  rw[ec]at hd
  rw[hd]
  have t2:cF H1 (upd H1 p (.lst [.int (n1 / ((ww.1:Int)-1))])):=cF.upd mu1
  have b2:But p H (upd H1 p (.lst [.int (n1 / ((ww.1:Int)-1))])):=b1.wO
  have hp2:upd H1 p (.lst [.int (n1 / ((ww.1:Int)-1))]) p=some (.lst [.int (n1 / ((ww.1:Int)-1))]):=aU
  generalize n1 / ((ww.1:Int)-1)=n2 at *
  generalize upd H1 p (.lst [.int n2])=H2 at *
  refine⟨_,_,rfl,rfl,_,rfl,r,_,_,.int ww.1,rfl,rfl,(t1.trans t2).nC hr3,rfl,_,_,rfl,rfl,by omega,by show 2<=sizeLine;decide,λ t ht=>?_⟩
  obtain⟨c,hc,cm,ne⟩:=Hm am (show d+1<ww.1 by omega)
  have tp:t≠p:=λ z=>by subst z;rw[hp2]at ht;cases ht
  show Q (V.ref t) (upd H2 t (.tup [iV a,.int (((a:Int)+1+(d:Int)) % (ww.1:Int))]))
  rw[hc]
  exact q t a c n2 _ am cm ne (by rw[aV (Ne.symm tp)];exact hp2) (b2.new (b2.none ht tp)) aU
noncomputable def BN (K:PySem.W.Frag):Sp:=λ vs H Q _=>∃ (a:Addr) (ns:List Int),vs=[.ref a]/\SqL K H a (ns.map V.int)/\ns.length<=63/\∀ H',Q (.bl true) H'
noncomputable def tk (K:PySem.W.Frag)(j i:Nat):TS:=gG (iX jC [] E0 (bp (bF 2) (bp (tOp (KJ K) (bF j) (tC (V.int 0))) cK))) (bT i)
noncomputable def l5 (K:PySem.W.Frag):TS:=dP (tk K 3 5) (dP (tk K 3 6) (dP (gG (iX (Ie K) [] E0 (bp (bF 2) (bp (bF 3) cK))) (BV K 2 (mr (bT 7) (mr (bT 8) BU)))) (tDS K nT)))
noncomputable def wb (K:PySem.W.Frag)(th:Int)(i:Nat):TS:=gG (iX (Ic K) [] E0 (bp (bF 2) (bp (tC (V.int 8)) (bp (tC (V.int th)) cK)))) (bT i)
noncomputable def lB (K:PySem.W.Frag):TS:=dP (gG (iX Ia [] E0 (bp (iX (Fz K) [] E0 (bp (bF 0) (bp (bF 1) cK))) cK)) (bT 2)) (dP (wb K 1 3) (dP (wb K 0 4) (l5 K)))
noncomputable def lA (K:PySem.W.Frag):TS:=dP (xc (AF (bp (tCB Ke (bp (tC (V.int 1)) (bp (tCB Kd (bp (tCB (Kc K) (bp (bF 0) cK)) (bp (tC (V.int 4)) cK))) cK))) cK)) (bT 1) (lB K)) (BS (tC (V.bl true)))
theorem Ig {D:Ends}{σ:L2.St}{H:Hp}{p:Addr}{i j:Nat}{v:V}{ww:Web}{n:Int}(hg:Good ww)(h2:σ[2]?=some (some (.ref p)))(hj:σ[j]?=some (some v))(iw:Is K H v (bf ww))(hp:H p=some (.lst [.int n]))
  (h:∀ (a:Nat) (n':Int),a<ww.1->D.nx (σ.set i (some (iV a))) (upd H p (.lst [.int n']))):tk K j i D σ H:=by
 have wp:0<ww.1:=by have:=hg.two;omega
 have w8:=hg.da
 obtain⟨r,xs,hv,hr3,is3⟩:=iw.bX
 obtain⟨v0,v1,hxs,j0,j1⟩:=is3.two
 have hv0:=j0.int_inv
 refine⟨_,h2,_,hj,r,_,_,v0,hv,rfl,hr3,by rw[hxs];rfl,p,n,ww.1,by rw[hv0];rfl,hp,by omega,by omega,?_⟩
 obtain⟨a,ha,am⟩:=Kk n wp
 rw[ha]
 exact h a _ am
theorem But.text {p:Addr}{H H':Hp}{n:Int}(b:But p H H')(hp:H p=some (.lst [.int n])):cF H H':=⟨λ c xs e=>b c _ e (λ z=>by subst z;rw[hp]at e;cases e),λ c o u e=>b c _ e (λ z=>by subst z;rw[hp]at e;cases e)⟩
theorem But.same {p:Addr}{H0 H H':Hp}(b:But p H H')(s:a_ H0 H)(n:H0 p=Option.none):a_ H0 H':=λ c o e=>b c o (s c o e) (bw e n)
theorem L7 {D:Ends}{H H1:Hp}{a0 p:Addr}{i:Nat}{vw vt:V}{ww wt:Web}{n:Int}{x5 x6 x7 x8 x9 x10 x11 x12 x13:Option V}(hg:Good ww)(gt:Good wt)(tr:wt.2.length+1=wt.1)(i3:Is K H1 vw (bf ww))(i4:Is K H1 vt (bf wt))(sm:a_ H H1)(p0:H p=none)(hp:H1 p=some (.lst [.int n]))
  (h:∀ σ' H',σ'.length=14->σ'[0]?=some (some (.ref a0))->a_ H H'->D.nx σ' H'):l5 K D [some (.ref a0),some (iV i),some (.ref p),some vw,some vt,x5,x6,x7,x8,x9,x10,x11,x12,x13] H1:=by
 refine Ig hg rfl rfl i3 hp λ b n1 bm=>?_
 have j3:=i3.text (cF.upd (o:=.lst [.int n1]) (by rw[hp];trivial)) (imW ww)
 have j4:=i4.text (cF.upd (o:=.lst [.int n1]) (by rw[hp];trivial)) (imW wt)
 have s5:a_ H (upd H1 p (.lst [.int n1])):=dw sm p0
 have hp5:upd H1 p (.lst [.int n1]) p=some (.lst [.int n1]):=aU
 generalize upd H1 p (.lst [.int n1])=H5 at j3 j4 s5 hp5
 refine Ig hg rfl rfl j3 hp5 λ q n2 qm=>?_
 have k3:=j3.text (cF.upd (o:=.lst [.int n2]) (by rw[hp5];trivial)) (imW ww)
 have k4:=j4.text (cF.upd (o:=.lst [.int n2]) (by rw[hp5];trivial)) (imW wt)
 have s6:a_ H (upd H5 p (.lst [.int n2])):=dw s5 p0
 have hp6:upd H5 p (.lst [.int n2]) p=some (.lst [.int n2]):=aU
 generalize upd H5 p (.lst [.int n2])=H6 at k3 k4 s6 hp6
 refine⟨_,rfl,_,rfl,p,n2,vw,ww,rfl,hg,k3,hp6,λ t a c n3 H7 am cm ne hp7 b7 ht=>?_⟩
 have t7:=b7.text hp6
 have m3:=k3.text t7 (imW ww)
 have m4:=k4.text t7 (imW wt)
 have s7:=b7.same s6 p0
 refine⟨t,_,rfl,SqT.of ht,rfl,_,_,rfl,_,_,rfl,rfl,?_⟩
 obtain⟨p9,p10,p11,p12,p13,et⟩:=hg.LU gt tr bm qm am cm ne (some (.opq (.ref a0))) none none none none none none none
 refine⟨_,_,wN (.opq _) (qI (qI (wN m3 (wN m4 (wN (.int _) (wN (.int _) (wN (.int _) (wN (.int _) (qI (qI (qI (qI (qI LV))))))))))))),et,λ H8 s8 σ8 S8=>h σ8 H8 S8.len ?_ (s7.trans s8)⟩
 obtain⟨v7,e7,i7⟩:=S8.at_ 0 _ rfl
 rw[e7,i7.Gd]
theorem L8 {D:Ends}{H H0:Hp}{a0:Addr}{ns:List Int}{i:Nat}{x2 x3 x4 x5 x6 x7 x8 x9 x10 x11 x12 x13:Option V}(hS:SqL K H a0 (ns.map V.int))(h63:ns.length<=63)(sm0:a_ H H0)
  (h:∀ σ' H',σ'.length=14->σ'[0]?=some (some (.ref a0))->a_ H H'->D.nx σ' H'):lB K D [some (.ref a0),some (iV i),x2,x3,x4,x5,x6,x7,x8,x9,x10,x11,x12,x13] H0:=by
 refine⟨_,rfl,_,rfl,a0,ns,i,rfl,sm0.seq hS,h63,λ c=>⟨c,rfl,λ p n hp=>?_⟩⟩
 have p0:H p=none:=sm0.free hp
 refine⟨_,rfl,p,n,1,rfl,ag _,aU,λ v H1 n1 ww hg _ iw hp1 but1=>?_⟩
 have sm1:a_ H H1:=λ b o e=>but1 b o (by rw[aV (bw e p0)];exact sm0 b o e) (bw e p0)
 refine⟨_,rfl,p,n1,0,rfl,Nat.zero_le _,hp1,λ v2 H2 n2 wt gt htr it hp2 but2=>?_⟩
 have but2:But p H1 H2:=but2
 exact L7 hg gt (htr rfl) (iw.text (but2.text hp1) (imW ww)) it (but2.same sm1 p0) p0 hp2 h
theorem L9 {D:Ends}{H:Hp}{a0:Addr}{ns:List Int}(hS:SqL K H a0 (ns.map V.int))(h63:ns.length<=63)(q:∀ H',D.rt (.bl true) H'):lA K D [some (.ref a0),none,none,none,none,none,none,none,none,none,none,none,none,none] H:=by
 refine⟨_,rfl,a0,_,rfl,.inl hS,_,_,rfl,_,_,rfl,_,rfl,?_,?_,?_⟩
 ·omega
 ·omega
 ·generalize (if (if (4:Int)<((ns.map V.int).length:Int) then (4:Int) else ((ns.map V.int).length:Int))>1 then (if (4:Int)<((ns.map V.int).length:Int) then (4:Int) else ((ns.map V.int).length:Int)) else 1)=N
  refine lN (lo:=0) (n:=N.toNat) (λ i σ' H'=>σ'.length=14/\σ'[0]?=some (some (.ref a0))/\a_ H H') ⟨rfl,rfl,a_.refl H⟩ ?_ ?_
  ·rintro i σ' H0 hi ⟨hl,h0,sm0⟩
   obtain⟨x1,x2,x3,x4,x5,x6,x7,x8,x9,x10,x11,x12,x13,rfl⟩:=L6 hl h0
   rw[Int.zero_add]
   exact L8 hS h63 sm0 λ σ' H' h1 h2 h3=>⟨h1,h2,h3⟩
  ·rintro σ' H' _
   exact q H'
theorem Km (T:Txt K mg):bQ P w K mg base CX0 9 T.BL.f T.BL.fd ["_law_script"] (BN K):=by
 refine T.BL.F.ok fS (λ vs H Q E h=>?_) (λ cdv A outer s H vs Q E hr h=>?_)
 ·obtain⟨a,ns,rfl,_⟩:=h
  rfl
 ·obtain⟨a0,ns,rfl,hS,h63,q⟩:=h
  have hr1:fG 1 _:=hr.mono (by decide)
  have hr2:fG 2 _:=hr.mono (by decide)
  refine⟨lA K,ba (jT PassesOwn.never rfl (jF rfl T.cS (aW (fH (oU rfl) rfl T.oF boot_max (aW bA (aW (fH (oV rfl) rfl T.oE boot_min (aW (fH hE rfl T.fe PySem.boot_len (aW (pv 0) bx)) (aW bA bx))) bx))) bx)) (bh (i:=1) fS.nd rfl (Or.inl rfl))
   (ba (b_ (i:=2) fS.nd rfl (Or.inl rfl) (cX (Kb T) hr1 rfl T.fw.m T.fw.F.kp T.fw.b .nil gJ (aW (cX (Hi T) hr1 rfl T.cQ.m T.cQ.F.kp T.cQ.b .nil gJ (aW (pv 0) (aW (pv 1) bx))) bx)))
   (ba (b_ (i:=3) fS.nd rfl (Or.inr rfl) (cX (FA T) hr2 rfl T.cR.m T.cR.F.kp T.cR.b .nil gJ (aW (pv 2) (aW bA (aW bA bx))))) (ba (b_ (i:=4) fS.nd rfl (Or.inl rfl) (cX (FA T) hr2 rfl T.cR.m T.cR.F.kp T.cR.b .nil gJ (aW (pv 2) (aW bA (aW bA bx)))))
   (ba (b_ (i:=5) fS.nd rfl (Or.inl rfl) (cX (fW T) hr1 rfl T.aY.m T.aY.F.kp T.aY.b .nil gJ (aW (pv 2) (aW (iF oY (pv 3) bA (λ _ _=>rfl)) bx)))) (ba (b_ (i:=6) fS.nd rfl (Or.inr rfl) (cX (fW T) hr1 rfl T.aY.m T.aY.F.kp T.aY.b .nil gJ (aW (pv 2) (aW (iF oY (pv 3) bA (λ _ _=>rfl)) bx))))
   (ba (oN (cX (Kl T) hr2 rfl T.fx.m T.fx.F.kp T.fx.b .nil gJ (aW (pv 2) (aW (pv 3) bx))) (eV rfl (bC (bh (i:=7) fS.nd rfl (Or.inl rfl)) (bC (bh (i:=8) fS.nd rfl (Or.inl rfl)) dz))))
   (show PSs _ _ (tDS K nT) from(bc (gL (dh (qy (bq hr)) (dC T.gF (jP T) (hr.mono (by decide)) (aL (dv 4) (aL bD aR))) (iH lS T.df boot_tuple (aL (nF rfl (du (own:=["_law_number"]) (fr:=[]) (ix:=[])) (gZ (dC T.iU (y6 T) (hr.mono (by decide)) (aL (dv 4) (aL bD aR)))) (λ _ _ _ _=>(bh (i:=0) (by show((["_law_number"]:List Str)++([]:List Str)).Nodup;decide +kernel) rfl (Or.inl rfl))) cA cZ (λ _ _ _ _=>fK) (λ _ _ _ _=>(lg (aL (dv 0) (aL bD aR))))) aR))) (aZ (bB o9)) c_) (bc (gL (xG (qf (dh (qy (bq hr)) (dC T.dO (jD T) (hr.mono (by decide)) (aL (dC T.pU (BM T) (hr.mono (by decide)) (aL (dv 3) (aL (dv 5) aR))) (aL (di (dC T.ji (oG T) (hr.mono (by decide)) (aL (dv 3) aR)) (dv 5)) aR))) (lg (aL bD (aL bD aR)))) (la (dh Jn (dC T.iT (yY T) (hr.mono (by decide)) (aL (dv 3) (aL (dv 5) (aL (dC T.gF (jP T) (hr.mono (by decide)) (aL (dv 3) (aL (dv 5) aR))) aR)))) o9)))) (aZ (bB o9)) c_) (bc (gL (dh (qy (bq hr)) (dC T.eJ (kE T) (hr.mono (by decide)) (aL (dC T.mj (yZ T) (hr.mono (by decide)) (aL (dv 3) (aL (dv 6) (aL (dv 7) (aL (dv 8) aR))))) (aL (dC T.mj (yZ T) (hr.mono (by decide)) (aL (dv 3) (aL (dv 6) (aL (dv 8) (aL (dv 7) aR))))) aR))) (lg (aL bD (aL bD aR)))) (aZ (bB o9)) c_) (bc (xI (i:=9) fS.nd rfl (du (own:=["_law_there"]) (fr:=["_law_place","_law_web_here"]) (ix:=[6,3])) (jY T.cS (aL (di (dv 3) bD) aR)) (λ _ _ _ _=>(bh (i:=0) (by show((["_law_there"]:List Str)++(["_law_place","_law_web_here"]:List Str)).Nodup;decide +kernel) rfl (Or.inl rfl))) cA cZ (λ _ _ _ _=>fK) (λ _ _ _ _=>(dC T.dO (jD T) (hr.mono (by decide)) (aL (di (dC T.ji (oG T) (hr.mono (by decide)) (aL (dv 2) aR)) (dv 0)) (aL (di (dC T.gF (jP T) (hr.mono (by decide)) (aL (dv 2) (aL (dv 0) aR))) (dv 1)) aR))))) (bc (gL (dh (qy (bq hr)) (dC T.eS (mI T) (hr.mono (by decide)) (aL (dv 9) aR)) (dC T.oC (FE T) (hr.mono (by decide)) (aL (dv 3) aR))) (aZ (bB o9)) c_) (bc (eW (i:=10) fS.nd (dC T.gF (jP T) (hr.mono (by decide)) (aL (dv 3) (aL (dv 5) aR)))) (aZ (vE PassesOwn.never rfl (jY T.cS (aL (di (dv 3) bD) aR)) (bh (i:=11) fS.nd rfl (Or.inl rfl)) cZ (bc (eW (i:=12) fS.nd (dC T.gS (wR T) (hr.mono (by decide)) (aL (dv 3) (aL (dv 11) aR)))) (bc (eW (i:=13) fS.nd (dC T.eJ (kE T) (hr.mono (by decide)) (aL (lg (aL bD (aL bD aR))) (aL (dC T.dO (jD T) (hr.mono (by decide)) (aL (dC T.eS (mI T) (hr.mono (by decide)) (aL (nF rfl (du (own:=["_law_there"]) (fr:=["_law_far"]) (ix:=[10])) (gZ (dv 12)) (λ _ _ _ _=>(bh (i:=0) (by show((["_law_there"]:List Str)++(["_law_far"]:List Str)).Nodup;decide +kernel) rfl (Or.inl rfl))) cA cZ (λ _ _ _ _=>fK) (λ _ _ _ _=>(di (dv 1) (dv 0)))) aR)) (aL (lg (aL bD (aL (bG kG T.fe PySem.boot_len (aL (dv 12) aR)) aR))) aR))) aR)))) (aZ (gL (dh (qy (bq hr)) (dv 13) (KY (dh (vH (bq hr)) (dv 11) (dv 5)) (dC T.pU (BM T) (hr.mono (by decide)) (aL (dv 3) (aL (dv 5) aR))) (di (dv 10) (dv 11)))) (aZ (bB o9)) c_)))))))))))))))))))) (bW (jq Hr)),?_⟩
  exact L9 hS h63 q
end
end K33
end
namespace K33
open PySem PySem.Spec PyProof.Rows L2 Zp
theorem ls0 {P:List Value->Prop}(h:P [])(us:List Value)(e:us.length=0):P us:=by rw[List.eq_nil_of_length_eq_zero e];exact h
theorem lsS {P:List Value->Prop}{k:Nat}(h:∀ a us,us.length=k->P (a::us))(us:List Value)(e:us.length=k+1):P us:=by
 cases us with
 | nil=>cases e
 | cons a r=>exact h a r (Nat.succ.inj e)
theorem ls1 {P:List Value->Prop}(h:∀ a,P [a])(us:List Value)(e:us.length=1):P us:=lsS (k:=0) (λ a us e=>ls0 (P:=λ us=>P (a::us)) (h a) us e) us e
theorem ls2 {P:List Value->Prop}(h:∀ a b,P [a,b])(us:List Value)(e:us.length=2):P us:=lsS (k:=1) (λ a us e=>ls1 (P:=λ us=>P (a::us)) (h a) us e) us e
theorem ls3 {P:List Value->Prop}(h:∀ a b c,P [a,b,c])(us:List Value)(e:us.length=3):P us:=lsS (k:=2) (λ a us e=>ls2 (P:=λ us=>P (a::us)) (h a) us e) us e
theorem ls4 {P:List Value->Prop}(h:∀ a b c d,P [a,b,c,d])(us:List Value)(e:us.length=4):P us:=lsS (k:=3) (λ a us e=>ls3 (P:=λ us=>P (a::us)) (h a) us e) us e
noncomputable def bE {K:PySem.W.Frag}{h:Heap}{mg:Str->Option Value}{n:Str}{s:Stmt}{ps:List Str}(X:K.In h)(G:h.Ns mainGlobals mg){f:Addr}{od an:Option Addr}{sl:Array (Option Value)}{oc kV dc pm cd ct:Value}(a:PySem.W.nsIn K mainGlobals n=some (some (.ref f)))
  (l:K.lookup f=some ⟨oc,od,.func (PySem.W.fnOf n n (lO s) (iZ s) (aX s) .none kV dc pm an cd ct),sl⟩) (c:PySem.W.codeIn K cd n=true) (k:PySem.W.keepIn K (.ref f)=true) (hb:∀ fd,Fun K n n s f fd->Binds K fd ps []):FnT K mg n s ps :=
 ⟨f,_,zx (st:=s) l c k,PySem.W.mg_of X G a,hb _ (zx (st:=s) l c k)⟩
theorem all_mk {l:PySem.W.OpenLaw}{w:World}{K:PySem.W.Frag}{h:Heap}{mg:Str->Option Value}{fa:Addr}(X:K.In h)(G:h.Ns mainGlobals mg)(hfa:mg "law"=some (.ref fa))
  {f47:Addr} {od47 an47:Option Addr} {sl47:Array (Option Value)} {oc47 kV47 dc47 pm47 cd47 ct47:Value}
  {q_ZERO:Addr} {qd_ZERO:Option Addr} {t1_ZERO t2_ZERO:Tok} {n_ZERO:Nat} {s_ZERO:Array (Option Value)}
  {dZ:Tok}
  {fg:Tok}
  (x0:FnT K mg "is_whole" kl ["thing"])
  (x1:FnT K mg "common_divisor" eQ ["a","b"])
  (x2:FnT K mg "is_fraction" gz ["thing"])
  (x3:FnT K mg "are_fractions" fk ["thing","many"])
  (x4:FnT K mg "fraction" km ["top","bottom"])
  (x5:FnT K mg "plus" wy ["one","other"])
  (x6:FnT K mg "times" qX ["one","other"])
  (x7:FnT K mg "total" qY ["fractions"])
  (x8:FnT K mg "solved" ou ["rows"])
  (x9:FnT K mg "cleared" l_ ["row","lead","at","former"])
  (x10:FnT K mg "is_place" kn ["many","thing"])
  (x11:FnT K mg "is_tie" ow ["many","thing"])
  (x12:FnT K mg "is_rising" ja ["things"])
  (x13:FnT K mg "tied_to" ma ["ties","place"])
  (x14:FnT K mg "distances" jb ["ties","start"])
  (x15:FnT K mg "nearer_place" fP ["ties","far","here"])
  (x16:FnT K mg "part_beyond" gA ["ties","a","b"])
  (x17:FnT K mg "degrees" md ["web"])
  (x18:FnT K mg "is_web" ox ["thing"])
  (x19:FnT K mg "check_web" jc ["thing"])
  (x20:FnT K mg "check_place" gD ["web","thing"])
  (x21:FnT K mg "check_two" jd ["a","b"])
  (x22:FnT K mg "check_ends" hJ ["web","a","b"])
  (x23:FnT K mg "check_tree" hU ["thing"])
  (x24:FnT K mg "is_tree" mf ["web"])
  (x25:FnT K mg "still" qZ ["web"])
  (x26:FnT K mg "balanced" ko ["web","given","added"])
  (x27:FnT K mg "equation" kq ["web","place","given","added"])
  (x28:FnT K mg "means" q_ ["web","goal"])
  (x29:FnT K mg "is_means" kr ["web","goal","thing"])
  (x30:FnT K mg "back" wz ["web","place"])
  (x31:FnT K mg "chances_ahead" fq ["web","one","other"])
  (x32:FnT K mg "ahead" ra ["web","place","one","other"])
  (x33:FnT K mg "drawn" rb ["web"])
  (x34:FnT K mg "steps_over" hV ["places"])
  (x35:FnT K mg "counted_means" ft ["tree","goal"])
  (x36:FnT K mg "means_to" ku ["tree","place"])
  (x37:FnT K mg "_law_cell_at" fQ ["_law_script","_law_k"])
  (x38:FnT K mg "_law_pot" kx ["_law_cell"])
  (x39:FnT K mg "_law_take" je ["_law_pot_here","_law_far"])
  (x40:FnT K mg "_law_fr" mh ["_law_top","_law_bottom"])
  (x41:FnT K mg "_law_plus" jg ["_law_one","_law_other"])
  (x42:FnT K mg "_law_times" hW ["_law_one","_law_other"])
  (x43:FnT K mg "_law_total" hX ["_law_some"])
  (x44:FnT K mg "_law_near" jh ["_law_web_here","_law_place"])
  (x45:FnT K mg "_law_web" iP ["_law_pot_here","_law_most","_law_thick"])
  (x46:FnT K mg "_law_two" ky ["_law_pot_here","_law_web_here"])
  (a47:PySem.W.nsIn K mainGlobals "law"=some (some (.ref f47))) (l47:K.lookup f47=some ⟨oc47,od47,.func (PySem.W.fnOf "law" "law" (lO uY) (iZ uY) (aX uY) .none kV47 dc47 pm47 an47 cd47 ct47),sl47⟩) (c47:PySem.W.codeIn K cd47 "law"=true) (k47:PySem.W.keepIn K (.ref f47)=true)
  (bS:PySem.W.nsIn K mainGlobals "isinstance"=some none)
  (fe:PySem.W.nsIn K mainGlobals "len"=some none)
  (qp:PySem.W.nsIn K mainGlobals "all"=some none)
  (oD:PySem.W.nsIn K mainGlobals "abs"=some none)
  (oE:PySem.W.nsIn K mainGlobals "min"=some none)
  (oF:PySem.W.nsIn K mainGlobals "max"=some none)
  (yV:PySem.W.nsIn K mainGlobals "sum"=some none)
  (gT:PySem.W.nsIn K mainGlobals "sorted"=some none)
  (df:PySem.W.nsIn K mainGlobals "tuple"=some none)
  (uZ:PySem.W.nsIn K mainGlobals "int"=some none)
  (pV:PySem.W.nsIn K mainGlobals "bool"=some none)
  (cS:PySem.W.nsIn K mainGlobals "range"=some none)
  (tJ:PySem.W.nsIn K mainGlobals "zip"=some none)
  (u0:PySem.W.nsIn K mainGlobals "set"=some none)
  (m6:PySem.W.nsIn K mainGlobals "list"=some none)
  (eK:PySem.W.nsIn K mainGlobals "enumerate"=some none)
  (e_ZERO:PySem.W.nsIn K mainGlobals "ZERO"=some (some (.ref q_ZERO))) (u_ZERO:K.lookup q_ZERO=some ⟨.type "tuple",qd_ZERO,.seq #[.int 0 t1_ZERO,.int 1 t2_ZERO] n_ZERO,s_ZERO⟩)
  (e_FEWEST_PLACES:PySem.W.nsIn K mainGlobals "FEWEST_PLACES"=some (some (.int 2 dZ)))
  (e_MOST_PLACES:PySem.W.nsIn K mainGlobals "MOST_PLACES"=some (some (.int 8 fg))) :
  ∃ fd:FuncData,(∀ (s:Shared) (v:Value),BindsTo s fd ⟨[v],[]⟩ [("_law_script",v)])/\∀ base:Heap,K.In base->base.Ns mainGlobals mg->bQ l.prog w K mg base CX0 9 fa fd ["_law_script"] (BN K):=by
 have e:=hfa.symm.trans (PySem.W.mg_of X G a47)
 cases e
 have F47:=zx (st:=uY) l47 c47 k47
 have b47:=F47.binds (ps:=["_law_script"]) λ _ _ _ _ _ _=>ls1 λ _=>rfl
 let T:Txt K mg:={
  eA:=x0,
  cM:=x1,
  fb:=x2,
  dU:=x3,
  eD:=x4,
  tI:=x5,
  oA:=x6,
  oB:=x7,
  lI:=x8,
  jN:=x9,
  fv:=x10,
  lJ:=x11,
  gQ:=x12,
  fF:=x13,
  eE:=x14,
  eG:=x15,
  fc:=x16,
  ip:=x17,
  lK:=x18,
  cJ:=x19,
  bZ:=x20,
  gR:=x21,
  fT:=x22,
  fU:=x23,
  jO:=x24,
  ji:=x25,
  gr:=x26,
  iS:=x27,
  gF:=x28,
  iT:=x29,
  pU:=x30,
  dX:=x31,
  mj:=x32,
  oC:=x33,
  fV:=x34,
  dY:=x35,
  iU:=x36,
  cQ:=x37,
  fw:=x38,
  aY:=x39,
  iq:=x40,
  eJ:=x41,
  dO:=x42,
  eS:=x43,
  gS:=x44,
  cR:=x45,
  fx:=x46,
  BL:=⟨_,_,F47,PySem.W.mg_of X G a47,b47⟩,
  bS:=PySem.W.mg_none_of X G bS,
  fe:=PySem.W.mg_none_of X G fe,
  qp:=PySem.W.mg_none_of X G qp,
  oD:=PySem.W.mg_none_of X G oD,
  oE:=PySem.W.mg_none_of X G oE,
  oF:=PySem.W.mg_none_of X G oF,
  yV:=PySem.W.mg_none_of X G yV,
  gT:=PySem.W.mg_none_of X G gT,
  df:=PySem.W.mg_none_of X G df,
  uZ:=PySem.W.mg_none_of X G uZ,
  pV:=PySem.W.mg_none_of X G pV,
  cS:=PySem.W.mg_none_of X G cS,
  tJ:=PySem.W.mg_none_of X G tJ,
  u0:=PySem.W.mg_none_of X G u0,
  m6:=PySem.W.mg_none_of X G m6,
  eK:=PySem.W.mg_none_of X G eK,
  tK:=_,Ft:=PySem.W.mg_of X G e_ZERO,Fu:=rfl,Fv:=λ H=>Is.tup (xs:=[.int 0,.int 1]) (.inr ⟨_,_,_,u_ZERO,rfl,rfl,by show 2<=sizeLine;decide,.cons ⟨_,rfl⟩ (.cons ⟨_,rfl⟩ .nil)⟩) (.cons (.int _) (.cons (.int _) .nil)),
  dZ:=_,kI:=PySem.W.mg_of X G e_FEWEST_PLACES,kJ:=⟨_,rfl⟩,kK:=λ H=>.int _,
  fg:=_,mE:=PySem.W.mg_of X G e_MOST_PLACES,mG:=⟨_,rfl⟩,mH:=λ H=>.int _}
 exact⟨_,λ s v=>.of_eq rfl,λ base _ _=>Km T⟩
theorem walk {l:PySem.W.OpenLaw}{q:Program}{loose:List Str}{XP:(Str->Option Value)->Heap->Prop}{YP:World->Heap->Prop}{d:DefRec}{K:Params->PySem.W.Frag}(hn:l.most=some 63)(hdf:d.params.defaults=[])
  (hY:∀ (w:World) (h:Heap),YP w h->(K w.params).In h)
  (F:∀ (w:World) (mg:Str->Option Value) (fa:Addr) (h:Heap),(K w.params).In h->h.Ns mainGlobals mg->mg d.name=some (.ref fa) ->
   ∃ fd:FuncData,(∀ (s:Shared) (u:Value),BindsTo s fd ⟨[u],[]⟩ [("_law_script",u)])/\∀ base:Heap,(K w.params).In base->base.Ns mainGlobals mg->bQ l.prog w (K w.params) mg base CX0 9 fa fd ["_law_script"] (BN (K w.params))) :
  PySem.W.WalkO q loose XP YP l.row.toRowW d [] (λ f vs=>PySem.call f vs) :=
 L2.AS (n:=63) (k:=9) (x:="_law_script") (CX:=λ _=>CX0) (sp:=λ w=>BN (K w.params)) hn (by decide) hdf ⟨rfl,by decide,by decide⟩ hY F (λ _ _ a ns hl _ hS=>⟨a,ns,rfl,hS,hl,λ _=>rfl⟩) λ _ _ _ _ _ z=>z
end K33
end Internal
open Internal
theorem PySem.W.Fast.tw17522476326458298214:True:=trivial
theorem PySem.W.Fast.tw723459428099605099:True:=trivial
theorem PySem.W.Fast.tw9151974319007034130:True:=trivial
theorem PySem.W.Fast.tw15355861332113463210:True:=trivial
theorem PySem.W.Fast.tw16788074817742157168:True:=trivial
theorem PySem.W.Fast.tw8956149781727144358:True:=trivial
theorem PySem.W.Fast.tw4791893914876137853:True:=trivial
theorem PySem.W.Fast.tw15624641007622731021:True:=trivial
theorem PySem.W.Fast.tw7223895473395544052:True:=trivial
theorem PySem.W.Fast.tw13005205534319157041:True:=trivial
theorem PySem.W.Fast.tw11748385800040752565:True:=trivial
theorem PySem.W.Fast.tw9072431160497991783:True:=trivial
theorem PySem.W.Fast.tw12351690211948517015:True:=trivial
theorem PySem.W.Fast.tw2014781926122638238:True:=trivial
theorem PySem.W.Fast.tw16110696411164624080:True:=trivial
theorem PySem.W.Fast.tw9130686779721972998:True:=trivial
theorem PySem.W.Fast.tw8127820262763178254:True:=trivial
theorem PySem.W.Fast.tw456547377989899735:True:=trivial
theorem PySem.W.Fast.tw7674527842134764605:True:=trivial
theorem PySem.W.Fast.tw9758926022799264448:True:=trivial
theorem PySem.W.Fast.tw3029612152966970280:True:=trivial
theorem PySem.W.Fast.tw4760239072123253474:True:=trivial
theorem PySem.W.Fast.tw7748140809251693327:True:=trivial
theorem PySem.W.Fast.tw4649293001286221093:True:=trivial
theorem PySem.W.Fast.tw9283582187247034314:True:=trivial
theorem PySem.W.Fast.tw16737850730529688576:True:=trivial
theorem PySem.W.Fast.tw1413162884813261975:True:=trivial
theorem PySem.W.Fast.tw7807514412093153805:True:=trivial
theorem PySem.W.Fast.tw5391827943345467073:True:=trivial
theorem PySem.W.Fast.tw14441132289722708360:True:=trivial
theorem PySem.W.Fast.tw10418060317671091774:True:=trivial
theorem PySem.W.Fast.tw10687927447123979255:True:=trivial
theorem PySem.W.Fast.tw13000025186338064819:True:=trivial
theorem PySem.W.Fast.tw7897526315984005547:True:=trivial
theorem PySem.W.Fast.tw18368613910536522114:True:=trivial
theorem PySem.W.Fast.tw2534767272693014055:True:=trivial
theorem PySem.W.Fast.tw7159504443938911305:True:=trivial
theorem PySem.W.Fast.tw2709822837928378130:True:=trivial
theorem PySem.W.Fast.tw4973306593385653212:True:=trivial
theorem PySem.W.Fast.tw4426346339613577828:True:=trivial
theorem PySem.W.Fast.tw7394377091818165984:True:=trivial
theorem PySem.W.Fast.tw17724683966262290185:True:=trivial
theorem PySem.W.Fast.tw8154843694063384213:True:=trivial
open PySem PySem.W PyProof.Rows
set_option maxRecDepth 100000 in
set_option maxHeartbeats 0 in
theorem PySem.Challenge.cw_treewalkers_k33_whole_means_holds : PySem.Challenge.rw_treewalkers_k33_whole_means.Holds := by
 w_on;o_law;k_head;(case hw=>w_witness2)
 k_fill
 refine K33.walk (l:=PySem.Challenge.rw_treewalkers_k33_whole_means) rfl rfl (λ w h Y=>PySem.W.kIn_of Y) ?F
 case F =>
  intro w mg fa h KX G hmg
  refine' K33.all_mk KX G hmg (K33.bE (n:="is_whole") (s:=K33.kl) KX G ?a0 ?l0 ?c0 ?k0 λ _ F=>F.binds (ps:=["thing"]) λ _ _ _ _ _ _=>K33.ls1 λ _=>rfl) (K33.bE (n:="common_divisor") (s:=K33.eQ) KX G ?a1 ?l1 ?c1 ?k1 λ _ F=>F.binds (ps:=["a","b"]) λ _ _ _ _ _ _=>K33.ls2 λ _ _=>rfl) (K33.bE (n:="is_fraction") (s:=K33.gz) KX G ?a2 ?l2 ?c2 ?k2 λ _ F=>F.binds (ps:=["thing"]) λ _ _ _ _ _ _=>K33.ls1 λ _=>rfl) (K33.bE (n:="are_fractions") (s:=K33.fk) KX G ?a3 ?l3 ?c3 ?k3 λ _ F=>F.binds (ps:=["thing","many"]) λ _ _ _ _ _ _=>K33.ls2 λ _ _=>rfl) (K33.bE (n:="fraction") (s:=K33.km) KX G ?a4 ?l4 ?c4 ?k4 λ _ F=>F.binds (ps:=["top","bottom"]) λ _ _ _ _ _ _=>K33.ls2 λ _ _=>rfl) (K33.bE (n:="plus") (s:=K33.wy) KX G ?a5 ?l5 ?c5 ?k5 λ _ F=>F.binds (ps:=["one","other"]) λ _ _ _ _ _ _=>K33.ls2 λ _ _=>rfl) (K33.bE (n:="times") (s:=K33.qX) KX G ?a6 ?l6 ?c6 ?k6 λ _ F=>F.binds (ps:=["one","other"]) λ _ _ _ _ _ _=>K33.ls2 λ _ _=>rfl) (K33.bE (n:="total") (s:=K33.qY) KX G ?a7 ?l7 ?c7 ?k7 λ _ F=>F.binds (ps:=["fractions"]) λ _ _ _ _ _ _=>K33.ls1 λ _=>rfl) (K33.bE (n:="solved") (s:=K33.ou) KX G ?a8 ?l8 ?c8 ?k8 λ _ F=>F.binds (ps:=["rows"]) λ _ _ _ _ _ _=>K33.ls1 λ _=>rfl) (K33.bE (n:="cleared") (s:=K33.l_) KX G ?a9 ?l9 ?c9 ?k9 λ _ F=>F.binds (ps:=["row","lead","at","former"]) λ _ _ _ _ _ _=>K33.ls4 λ _ _ _ _=>rfl) (K33.bE (n:="is_place") (s:=K33.kn) KX G ?a10 ?l10 ?c10 ?k10 λ _ F=>F.binds (ps:=["many","thing"]) λ _ _ _ _ _ _=>K33.ls2 λ _ _=>rfl) (K33.bE (n:="is_tie") (s:=K33.ow) KX G ?a11 ?l11 ?c11 ?k11 λ _ F=>F.binds (ps:=["many","thing"]) λ _ _ _ _ _ _=>K33.ls2 λ _ _=>rfl) (K33.bE (n:="is_rising") (s:=K33.ja) KX G ?a12 ?l12 ?c12 ?k12 λ _ F=>F.binds (ps:=["things"]) λ _ _ _ _ _ _=>K33.ls1 λ _=>rfl) (K33.bE (n:="tied_to") (s:=K33.ma) KX G ?a13 ?l13 ?c13 ?k13 λ _ F=>F.binds (ps:=["ties","place"]) λ _ _ _ _ _ _=>K33.ls2 λ _ _=>rfl) (K33.bE (n:="distances") (s:=K33.jb) KX G ?a14 ?l14 ?c14 ?k14 λ _ F=>F.binds (ps:=["ties","start"]) λ _ _ _ _ _ _=>K33.ls2 λ _ _=>rfl) (K33.bE (n:="nearer_place") (s:=K33.fP) KX G ?a15 ?l15 ?c15 ?k15 λ _ F=>F.binds (ps:=["ties","far","here"]) λ _ _ _ _ _ _=>K33.ls3 λ _ _ _=>rfl) (K33.bE (n:="part_beyond") (s:=K33.gA) KX G ?a16 ?l16 ?c16 ?k16 λ _ F=>F.binds (ps:=["ties","a","b"]) λ _ _ _ _ _ _=>K33.ls3 λ _ _ _=>rfl) (K33.bE (n:="degrees") (s:=K33.md) KX G ?a17 ?l17 ?c17 ?k17 λ _ F=>F.binds (ps:=["web"]) λ _ _ _ _ _ _=>K33.ls1 λ _=>rfl) (K33.bE (n:="is_web") (s:=K33.ox) KX G ?a18 ?l18 ?c18 ?k18 λ _ F=>F.binds (ps:=["thing"]) λ _ _ _ _ _ _=>K33.ls1 λ _=>rfl) (K33.bE (n:="check_web") (s:=K33.jc) KX G ?a19 ?l19 ?c19 ?k19 λ _ F=>F.binds (ps:=["thing"]) λ _ _ _ _ _ _=>K33.ls1 λ _=>rfl) (K33.bE (n:="check_place") (s:=K33.gD) KX G ?a20 ?l20 ?c20 ?k20 λ _ F=>F.binds (ps:=["web","thing"]) λ _ _ _ _ _ _=>K33.ls2 λ _ _=>rfl) (K33.bE (n:="check_two") (s:=K33.jd) KX G ?a21 ?l21 ?c21 ?k21 λ _ F=>F.binds (ps:=["a","b"]) λ _ _ _ _ _ _=>K33.ls2 λ _ _=>rfl) (K33.bE (n:="check_ends") (s:=K33.hJ) KX G ?a22 ?l22 ?c22 ?k22 λ _ F=>F.binds (ps:=["web","a","b"]) λ _ _ _ _ _ _=>K33.ls3 λ _ _ _=>rfl) (K33.bE (n:="check_tree") (s:=K33.hU) KX G ?a23 ?l23 ?c23 ?k23 λ _ F=>F.binds (ps:=["thing"]) λ _ _ _ _ _ _=>K33.ls1 λ _=>rfl) (K33.bE (n:="is_tree") (s:=K33.mf) KX G ?a24 ?l24 ?c24 ?k24 λ _ F=>F.binds (ps:=["web"]) λ _ _ _ _ _ _=>K33.ls1 λ _=>rfl) (K33.bE (n:="still") (s:=K33.qZ) KX G ?a25 ?l25 ?c25 ?k25 λ _ F=>F.binds (ps:=["web"]) λ _ _ _ _ _ _=>K33.ls1 λ _=>rfl) (K33.bE (n:="balanced") (s:=K33.ko) KX G ?a26 ?l26 ?c26 ?k26 λ _ F=>F.binds (ps:=["web","given","added"]) λ _ _ _ _ _ _=>K33.ls3 λ _ _ _=>rfl) (K33.bE (n:="equation") (s:=K33.kq) KX G ?a27 ?l27 ?c27 ?k27 λ _ F=>F.binds (ps:=["web","place","given","added"]) λ _ _ _ _ _ _=>K33.ls4 λ _ _ _ _=>rfl) (K33.bE (n:="means") (s:=K33.q_) KX G ?a28 ?l28 ?c28 ?k28 λ _ F=>F.binds (ps:=["web","goal"]) λ _ _ _ _ _ _=>K33.ls2 λ _ _=>rfl) (K33.bE (n:="is_means") (s:=K33.kr) KX G ?a29 ?l29 ?c29 ?k29 λ _ F=>F.binds (ps:=["web","goal","thing"]) λ _ _ _ _ _ _=>K33.ls3 λ _ _ _=>rfl) (K33.bE (n:="back") (s:=K33.wz) KX G ?a30 ?l30 ?c30 ?k30 λ _ F=>F.binds (ps:=["web","place"]) λ _ _ _ _ _ _=>K33.ls2 λ _ _=>rfl) (K33.bE (n:="chances_ahead") (s:=K33.fq) KX G ?a31 ?l31 ?c31 ?k31 λ _ F=>F.binds (ps:=["web","one","other"]) λ _ _ _ _ _ _=>K33.ls3 λ _ _ _=>rfl) (K33.bE (n:="ahead") (s:=K33.ra) KX G ?a32 ?l32 ?c32 ?k32 λ _ F=>F.binds (ps:=["web","place","one","other"]) λ _ _ _ _ _ _=>K33.ls4 λ _ _ _ _=>rfl) (K33.bE (n:="drawn") (s:=K33.rb) KX G ?a33 ?l33 ?c33 ?k33 λ _ F=>F.binds (ps:=["web"]) λ _ _ _ _ _ _=>K33.ls1 λ _=>rfl) (K33.bE (n:="steps_over") (s:=K33.hV) KX G ?a34 ?l34 ?c34 ?k34 λ _ F=>F.binds (ps:=["places"]) λ _ _ _ _ _ _=>K33.ls1 λ _=>rfl) (K33.bE (n:="counted_means") (s:=K33.ft) KX G ?a35 ?l35 ?c35 ?k35 λ _ F=>F.binds (ps:=["tree","goal"]) λ _ _ _ _ _ _=>K33.ls2 λ _ _=>rfl) (K33.bE (n:="means_to") (s:=K33.ku) KX G ?a36 ?l36 ?c36 ?k36 λ _ F=>F.binds (ps:=["tree","place"]) λ _ _ _ _ _ _=>K33.ls2 λ _ _=>rfl) (K33.bE (n:="_law_cell_at") (s:=K33.fQ) KX G ?a37 ?l37 ?c37 ?k37 λ _ F=>F.binds (ps:=["_law_script","_law_k"]) λ _ _ _ _ _ _=>K33.ls2 λ _ _=>rfl) (K33.bE (n:="_law_pot") (s:=K33.kx) KX G ?a38 ?l38 ?c38 ?k38 λ _ F=>F.binds (ps:=["_law_cell"]) λ _ _ _ _ _ _=>K33.ls1 λ _=>rfl) (K33.bE (n:="_law_take") (s:=K33.je) KX G ?a39 ?l39 ?c39 ?k39 λ _ F=>F.binds (ps:=["_law_pot_here","_law_far"]) λ _ _ _ _ _ _=>K33.ls2 λ _ _=>rfl) (K33.bE (n:="_law_fr") (s:=K33.mh) KX G ?a40 ?l40 ?c40 ?k40 λ _ F=>F.binds (ps:=["_law_top","_law_bottom"]) λ _ _ _ _ _ _=>K33.ls2 λ _ _=>rfl) (K33.bE (n:="_law_plus") (s:=K33.jg) KX G ?a41 ?l41 ?c41 ?k41 λ _ F=>F.binds (ps:=["_law_one","_law_other"]) λ _ _ _ _ _ _=>K33.ls2 λ _ _=>rfl) (K33.bE (n:="_law_times") (s:=K33.hW) KX G ?a42 ?l42 ?c42 ?k42 λ _ F=>F.binds (ps:=["_law_one","_law_other"]) λ _ _ _ _ _ _=>K33.ls2 λ _ _=>rfl) (K33.bE (n:="_law_total") (s:=K33.hX) KX G ?a43 ?l43 ?c43 ?k43 λ _ F=>F.binds (ps:=["_law_some"]) λ _ _ _ _ _ _=>K33.ls1 λ _=>rfl) (K33.bE (n:="_law_near") (s:=K33.jh) KX G ?a44 ?l44 ?c44 ?k44 λ _ F=>F.binds (ps:=["_law_web_here","_law_place"]) λ _ _ _ _ _ _=>K33.ls2 λ _ _=>rfl) (K33.bE (n:="_law_web") (s:=K33.iP) KX G ?a45 ?l45 ?c45 ?k45 λ _ F=>F.binds (ps:=["_law_pot_here","_law_most","_law_thick"]) λ _ _ _ _ _ _=>K33.ls3 λ _ _ _=>rfl) (K33.bE (n:="_law_two") (s:=K33.ky) KX G ?a46 ?l46 ?c46 ?k46 λ _ F=>F.binds (ps:=["_law_pot_here","_law_web_here"]) λ _ _ _ _ _ _=>K33.ls2 λ _ _=>rfl) ?a47 ?l47 ?c47 ?k47 ?bS ?fe ?qp ?oD ?oE ?oF ?yV ?gT ?df ?uZ ?pV ?cS ?tJ ?u0 ?m6 ?eK ?e_ZERO ?u_ZERO ?e_FEWEST_PLACES ?e_MOST_PLACES
  (case a0=>k_is)
  (case l0=>k_is)
  (case c0=>k_is)
  (case k0=>k_is)
  (case a1=>k_is)
  (case l1=>k_is)
  (case c1=>k_is)
  (case k1=>k_is)
  (case a2=>k_is)
  (case l2=>k_is)
  (case c2=>k_is)
  (case k2=>k_is)
  (case a3=>k_is)
  (case l3=>k_is)
  (case c3=>k_is)
  (case k3=>k_is)
  (case a4=>k_is)
  (case l4=>k_is)
  (case c4=>k_is)
  (case k4=>k_is)
  (case a5=>k_is)
  (case l5=>k_is)
  (case c5=>k_is)
  (case k5=>k_is)
  (case a6=>k_is)
  (case l6=>k_is)
  (case c6=>k_is)
  (case k6=>k_is)
  (case a7=>k_is)
  (case l7=>k_is)
  (case c7=>k_is)
  (case k7=>k_is)
  (case a8=>k_is)
  (case l8=>k_is)
  (case c8=>k_is)
  (case k8=>k_is)
  (case a9=>k_is)
  (case l9=>k_is)
  (case c9=>k_is)
  (case k9=>k_is)
  (case a10=>k_is)
  (case l10=>k_is)
  (case c10=>k_is)
  (case k10=>k_is)
  (case a11=>k_is)
  (case l11=>k_is)
  (case c11=>k_is)
  (case k11=>k_is)
  (case a12=>k_is)
  (case l12=>k_is)
  (case c12=>k_is)
  (case k12=>k_is)
  (case a13=>k_is)
  (case l13=>k_is)
  (case c13=>k_is)
  (case k13=>k_is)
  (case a14=>k_is)
  (case l14=>k_is)
  (case c14=>k_is)
  (case k14=>k_is)
  (case a15=>k_is)
  (case l15=>k_is)
  (case c15=>k_is)
  (case k15=>k_is)
  (case a16=>k_is)
  (case l16=>k_is)
  (case c16=>k_is)
  (case k16=>k_is)
  (case a17=>k_is)
  (case l17=>k_is)
  (case c17=>k_is)
  (case k17=>k_is)
  (case a18=>k_is)
  (case l18=>k_is)
  (case c18=>k_is)
  (case k18=>k_is)
  (case a19=>k_is)
  (case l19=>k_is)
  (case c19=>k_is)
  (case k19=>k_is)
  (case a20=>k_is)
  (case l20=>k_is)
  (case c20=>k_is)
  (case k20=>k_is)
  (case a21=>k_is)
  (case l21=>k_is)
  (case c21=>k_is)
  (case k21=>k_is)
  (case a22=>k_is)
  (case l22=>k_is)
  (case c22=>k_is)
  (case k22=>k_is)
  (case a23=>k_is)
  (case l23=>k_is)
  (case c23=>k_is)
  (case k23=>k_is)
  (case a24=>k_is)
  (case l24=>k_is)
  (case c24=>k_is)
  (case k24=>k_is)
  (case a25=>k_is)
  (case l25=>k_is)
  (case c25=>k_is)
  (case k25=>k_is)
  (case a26=>k_is)
  (case l26=>k_is)
  (case c26=>k_is)
  (case k26=>k_is)
  (case a27=>k_is)
  (case l27=>k_is)
  (case c27=>k_is)
  (case k27=>k_is)
  (case a28=>k_is)
  (case l28=>k_is)
  (case c28=>k_is)
  (case k28=>k_is)
  (case a29=>k_is)
  (case l29=>k_is)
  (case c29=>k_is)
  (case k29=>k_is)
  (case a30=>k_is)
  (case l30=>k_is)
  (case c30=>k_is)
  (case k30=>k_is)
  (case a31=>k_is)
  (case l31=>k_is)
  (case c31=>k_is)
  (case k31=>k_is)
  (case a32=>k_is)
  (case l32=>k_is)
  (case c32=>k_is)
  (case k32=>k_is)
  (case a33=>k_is)
  (case l33=>k_is)
  (case c33=>k_is)
  (case k33=>k_is)
  (case a34=>k_is)
  (case l34=>k_is)
  (case c34=>k_is)
  (case k34=>k_is)
  (case a35=>k_is)
  (case l35=>k_is)
  (case c35=>k_is)
  (case k35=>k_is)
  (case a36=>k_is)
  (case l36=>k_is)
  (case c36=>k_is)
  (case k36=>k_is)
  (case a37=>k_is)
  (case l37=>k_is)
  (case c37=>k_is)
  (case k37=>k_is)
  (case a38=>k_is)
  (case l38=>k_is)
  (case c38=>k_is)
  (case k38=>k_is)
  (case a39=>k_is)
  (case l39=>k_is)
  (case c39=>k_is)
  (case k39=>k_is)
  (case a40=>k_is)
  (case l40=>k_is)
  (case c40=>k_is)
  (case k40=>k_is)
  (case a41=>k_is)
  (case l41=>k_is)
  (case c41=>k_is)
  (case k41=>k_is)
  (case a42=>k_is)
  (case l42=>k_is)
  (case c42=>k_is)
  (case k42=>k_is)
  (case a43=>k_is)
  (case l43=>k_is)
  (case c43=>k_is)
  (case k43=>k_is)
  (case a44=>k_is)
  (case l44=>k_is)
  (case c44=>k_is)
  (case k44=>k_is)
  (case a45=>k_is)
  (case l45=>k_is)
  (case c45=>k_is)
  (case k45=>k_is)
  (case a46=>k_is)
  (case l46=>k_is)
  (case c46=>k_is)
  (case k46=>k_is)
  (case a47=>k_is)
  (case l47=>k_is)
  (case c47=>k_is)
  (case k47=>k_is)
  (case bS=>k_is)
  (case fe=>k_is)
  (case qp=>k_is)
  (case oD=>k_is)
  (case oE=>k_is)
  (case oF=>k_is)
  (case yV=>k_is)
  (case gT=>k_is)
  (case df=>k_is)
  (case uZ=>k_is)
  (case pV=>k_is)
  (case cS=>k_is)
  (case tJ=>k_is)
  (case u0=>k_is)
  (case m6=>k_is)
  (case eK=>k_is)
  (case e_ZERO=>k_is)
  (case u_ZERO=>k_is)
  (case e_FEWEST_PLACES=>k_is)
  (case e_MOST_PLACES=>k_is)
