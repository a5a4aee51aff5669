import Derived.Test.YtbfnhppoecdnoaaGreatDoorJ38
import Derived.Test.YtbfnhppoecdnoaaGreatDoorJ36
set_option maxRecDepth 100000
set_option maxHeartbeats 16000000
set_option linter.defProp false
open Bool renaming false->cA,true->dA
open Option renaming some->bA,none->aA
open ByteArray renaming empty->kA
open List renaming length->vA
namespace Go.Proofs.YtbfnhppoecdnoaaGreatDoor
open Go renaming World->eA,Value->iA,Calls->gA
open Value renaming int->lA,bool->pA,tuple->uA,agg->rA,string->nA,pointer->qA,slice->oA
open IntKind renaming i64->mA
open Ending renaming returned->sA
open Obj renaming cells->tA
open Go.RowKit Tryz
section
open Go.Maps
def AL(n:Nat)(w:eA):dI 135 #[lA mA n] w (pA (decide (n=1) ||decide (n=2))):=by
 by_cases a:n=1
 .subst a;go_enter func135,ntmps135;go_wp2;go_ret;exact⟨fB (by simp),rfl⟩
 have d:¬((n:Int)=1):=by omega
 by_cases b:n=2
 .subst b;go_enter func135,ntmps135;go_wp2;go_ret;exact⟨fB (by simp),rfl⟩
 have f:¬((n:Int)=2):=by omega
 have c:xA ((decide (n=1) ||decide (n=2))=cA):=by show _=_;simp[a,b]
 go_enter func135,ntmps135;go_wp2;go_ret;exact⟨fB (by rw[c.o];simp;omega),rfl⟩
def aVf(x:iA)(w:eA):(Instr.typeAssert (.iface 384 x) 341 384 dA).run prog w=.ok (uA #[x,pA dA]) w:=by kernel_rfl
def aVg(x:iA)(w:eA):(Instr.typeAssert (.iface 386 x) 341 384 dA).run prog w=.ok (uA #[rA #[lA mA 0,nA ⟨#[]⟩,nA ⟨#[]⟩],pA cA]) w:=by kernel_rfl
def aVh(x:iA)(w:eA):(Instr.typeAssert (.iface 386 x) 341 386 dA).run prog w=.ok (uA #[x,pA dA]) w:=by kernel_rfl
def aVi(x:iA)(w:eA):(Instr.typeAssert (.iface 388 x) 341 384 dA).run prog w=.ok (uA #[rA #[lA mA 0,nA ⟨#[]⟩,nA ⟨#[]⟩],pA cA]) w:=by kernel_rfl
def aVj(x:iA)(w:eA):(Instr.typeAssert (.iface 388 x) 341 386 dA).run prog w=.ok (uA #[rA #[lA mA 0,nA ⟨#[]⟩,lA mA 0],pA cA]) w:=by kernel_rfl
def aVk(x:iA)(w:eA):(Instr.typeAssert (.iface 388 x) 341 388 dA).run prog w=.ok (uA #[x,pA dA]) w:=by kernel_rfl
def yj(l m:Nat)(r:vE)(c:lC)(f:Int)(k:List aB)(M:Nat)(B:Nat->Prop)(K w:eA)(h:nE w B l m c f k M)(Y:kB K w)(S:∀g,w.1.size<=g->B g)(O:∀g,B g->K.1.size<=g)(T:vH K)(Q:kC c f k=dA)(a0:vA k+nB k<=1900000)(Z:1<=M)(o:M<=1000000000)(hn:r.T.size<=1400000)(hx:r.X.size<=1400000)(hk:nW r=dA):
 gA prog 285 #[qA (bA ⟨l,0,aA⟩),vV r] w fun e R=>e=sA (pA (zE c f k r).2.2)/\nE R B l m c (zE c f k r).1 (zE c f k r).2.1 (M+1)/\bB B w R:=by
 obtain⟨hc,q0,q1,G,ht⟩:=cI Q;obtain⟨v0,v1⟩:=aCp hc;have G:=Y.size;have hb:∀i(U:i<vA k),iE k[i]<=1900000:=fun i U=>by have:=kU k i U;omega
 have E:∀t∈k,vA t.Z<=1000000000/\vA t.M<=1000000000/\pC t.Z<=1900000:=fun t D=>by
  obtain⟨i,U,rfl⟩:=Ib D;have:=hb i U;unfold iE at this;omega
 have F:∀W,kB w W->kB K W:=fun W s=>Y.trans (s.mono G);have J:xA (∀W,kB w W->bB B w W):=fun W s=>bB.of s;have G:xA _:=fun W s=>TU l m r.T r.X c f B k M W (h.z s) (fun g P=>S g (Ua (Below.size s) P)) (T.z (F W s)) hn hx Z o (fun t D=>(E t D).1) (fun t D y I=>(CG (yJ (pJ ht t D)).2.2.1 y I).2.2) (by omega);have I:xA (∀W,kB w W->gA prog 313 #[qA (bA ⟨l,0,aA⟩),lA mA r.U] W fun e R=>e=sA (pA (gL c.w f k r.U).2.2)/\nE R B l m c (gL c.w f k r.U).1 (gL c.w f k r.U).2.1 M/\bB B W R):=fun W s=>aFy l m r.U c f k M B K W (h.z s) (F W s) (fun g P=>S g (Ua s.size P)) O T q0 q1 v0 v1 o (fun t D=>(E t D).1) (fun t D p o=>by
  obtain⟨j,U,rfl⟩:=Ib o;have o:=iK t.Z j U;have o:=uJ t.Z (j+1);have:=(E t D).2.2;omega)
 have H:xA _:=fun W s=>WN l m r.T r.X r.U c f B k M W (h.z s) (fun g P=>S g (Ua (Below.size s) P)) (T.z (F W s)) hn hx (fun t D=>(E t D).2.1) (by omega);clear S O h Y T Q a0 hb E F ht hc;have L:xA (zE c f k r=if r.K=1 then(f,(qL c f k r.T r.X).1,decide ((qL c f k r.T r.X).2=1) ||decide ((qL c f k r.T r.X).2=2)) else if r.K=2 then gL c.w f k r.U else if r.K=3 then(f,(iU k r.T r.X r.U).1,(iU k r.T r.X r.U).2) else(f,k,cA)):=rfl;have u:xA (vV r=if r.K=1 then .iface 384 (rA #[lA mA 1,nA r.T,nA r.X]) else if r.K=2 then .iface 386 (rA #[lA mA 2,nA kA,lA mA r.U]) else if r.K=3 then .iface 388 (rA #[lA mA 3,nA r.T,nA r.X,lA mA r.U]) else .nilIface):=rfl;generalize zE c f k r=X at *;generalize vV r=V at *;have h:r.K=1\/r.K=2\/r.K=3:=by simpa[nW]using hk
 clear hk;obtain⟨m,v,x,z⟩:=r;simp only at *;rcases h with rfl|rfl|rfl
 .have n:xA (X=(f,(qL c f k v x).1,decide ((qL c f k v x).2=1) ||decide ((qL c f k v x).2=2))):=by show _=_;rw[L.o,Ma rfl]
  have N:V=.iface 384 (rA #[lA mA 1,nA v,nA x]):=by rw[u.o,Ma rfl]
  clear L u I H;subst N;generalize qL c f k v x=h at *;have a:=aVf (rA #[lA mA 1,nA v,nA x]);go_enter func285,ntmps285;go_wp2_with fail;apply aC (G.o _ vB);rintro w1 ⟨o,q⟩;have A:=yA o;have C:xA _:=(J.o _ vB).trans' q;clear o q;go_wp2_with fail;apply lK (AL _ _);go_wp2;go_ret;exact⟨fB (by rw[n.o]),by rw[n.o];exact A.o,C.o⟩
 .have n:xA (X=gL c.w f k z):=by show _=_;rw[L.o,Ja (by decide),Ma rfl]
  have N:V=.iface 386 (rA #[lA mA 2,nA kA,lA mA z]):=by rw[u.o,Ja (by decide),Ma rfl]
  clear L u G H;subst N;generalize gL c.w f k z=h at *;have a:=aVg (rA #[lA mA 2,nA kA,lA mA z]);have b:=aVh (rA #[lA mA 2,nA kA,lA mA z]);go_enter func285,ntmps285;go_wp2_with fail;apply aC (I.o _ vB);rintro w1 ⟨o,q⟩;have A:=yA o;have C:xA _:=(J.o _ vB).trans' q;clear o q;go_wp2;go_ret;exact⟨fB (by rw[n.o]),by rw[n.o];exact A.o.mono (by omega),C.o⟩
 have n:xA (X=(f,(iU k v x z).1,(iU k v x z).2)):=by show _=_;rw[L.o,Ja (by decide),Ja (by decide),Ma rfl]
 have N:V=.iface 388 (rA #[lA mA 3,nA v,nA x,lA mA z]):=by rw[u.o,Ja (by decide),Ja (by decide),Ma rfl]
 clear L u G I;subst N;generalize iU k v x z=h at *;have a:=aVi (rA #[lA mA 3,nA v,nA x,lA mA z]);have b:=aVj (rA #[lA mA 3,nA v,nA x,lA mA z]);have d:=aVk (rA #[lA mA 3,nA v,nA x,lA mA z]);go_enter func285,ntmps285;go_wp2_with fail;apply aC (H.o _ vB);rintro w1 ⟨o,q⟩;have A:=yA o;have C:xA _:=(J.o _ vB).trans' q;clear o q;go_wp2;go_ret;exact⟨fB (by rw[n.o]),by rw[n.o];exact A.o.mono (by omega),C.o⟩
end
section
open Go.Maps
def aAb{c:lC}{a:Int}{b:List aB}{r:vE}(h:nW r=cA):zE c a b r=(a,b,cA):=by grind [nW,zE]
def bt(l m:Nat)(a:iC)(cap:Nat)(f:List vE)(c:lC)(p:Int)(q:List aB)(M:Nat)(B:Nat->Prop)(A w:eA)(h:nE w B l m c p q M)(h0:kB A w)(hA:∀g,w.1.size<=g->B g)(z:∀g,B g->A.1.size<=g)(X:∀W,bB B w W->wI W a f)(hU:vH A)(R:kC c p q=dA)(hlen:vA f<=500)(P:vA q+nB q+2*vA f+sD f<=1900000)(U:∀r∈f,r.T.size<=1400000/\r.X.size<=1400000)(hM1:1<=M)(hM:M<=900000000):
 gA prog 244 #[qA (bA ⟨l,0,aA⟩),oA a (vA f) cap] w fun e y=>e=sA (pA (sH c p q f).2.2)/\((sH c p q f).2.2=dA->nE y B l m c (sH c p q f).1 (sH c p q f).2.1 (M+vA f))/\bB B w y:=by
 have HF:=yA X;have HU:=yA hU;have HSZ:=yA U;have G:=yA h;have b0:xA (∀W,bB B w W->kB A W):=fun W D=>h0.trans (D.below h0.size fun k hk hs=>by have:=z k hs;omega);have Y:=yA hA;have Z:=yA z;have L:=yA R;have F:=yA P;clear X hU U h h0 R P hA z;go_enter func244,ntmps244;go_wp2;go_loopw [11] (fun i wr=>∃(k:Nat)(n:Int)(j:List aB),k<=vA f/\i=lA mA k/\xA (nE wr B l m c n j (M+k))/\xA (bB B w wr)/\xA (kC c n j=dA)/\xA (vA j+nB j+2*(vA f-k)+sD (f.drop k)<=1900000)/\xA (sH c n j (f.drop k)=sH c p q f)) (fun i _=>vA f-(intOf i).toNat)
 case atStart=>exact⟨0,p,q,Oa _,rfl,G.o,bB.refl _ _,L.o,yA (by simpa using F.o),rfl⟩
 case round=>
  obtain⟨k,n,j,hk,rfl,HL,C,V,HK,H⟩:=hrel;clear G L F;by_cases s:k<vA f
  .obtain ⟨b,o,rfl,hbw,r0,r1,r2,r3⟩:=(HF.o _ C.o).at s;obtain⟨hn,hx⟩:=HSZ.o _ (Gb s);have hkb:=HK.o;have hdr:=JE f s;have T:=tY V.o f[k];have HRS:xA ((zE c n j f[k]).2.2=dA->sH c n j (f.drop k)=sH c (zE c n j f[k]).1 (zE c n j f[k]).2.1 (f.drop (k+1))):=fun h=>ah s h;have J:xA ((zE c n j f[k]).2.2=cA->(sH c p q f).2.2=cA):=fun h=>by rw[<-H.o,ai s h]
   have HRE:xA ((zE c n j f[k]).2.2=dA->sH c n j (f.drop k)=sH c p q f):=fun _=>H.o;have HOK:xA ((zE c n j f[k]).2.2=dA->kC c (zE c n j f[k]).1 (zE c n j f[k]).2.1=dA):=fun h=>VD V.o h;have c0:xA (vA (zE c n j f[k]).2.1+nB (zE c n j f[k]).2.1+2*(vA f-(k+1))+sD (f.drop (k+1))<=1900000):=by show _<=_;omega
   have d0:xA (nW f[k]=cA->(zE c n j f[k]).2.2=cA):=fun h=>by rw[aAb h]
   have K:xA (∀W,qD 284 #[rA #[lA mA f[k].K,nA f[k].T,nA f[k].X,lA mA f[k].U]] W (uA #[vV f[k],pA (nW f[k])])):=fun W=>mP f[k] W;have a0:xA (nW f[k]=dA->∀W,kB wr W->gA prog 285 #[qA (bA ⟨l,0,aA⟩),vV f[k]] W fun e y=>e=sA (pA (zE c n j f[k]).2.2)/\nE y B l m c (zE c n j f[k]).1 (zE c n j f[k]).2.1 (M+k+1)/\bB B w y):=fun u W D=>(yj l m f[k] c n j (M+k) B A W (HL.o.z D) (b0.o _ (C.o.trans' (bB.of D))) (fun g hg=>Y.o g (Ua (Ua C.o.size D.size) hg)) Z.o HU.o V.o (by omega) (by omega) (by omega) hn hx u).mono fun e y ⟨h1,h2,h3⟩=>⟨h1,h2,(C.o.trans' (bB.of D)).trans' h3⟩
   clear hkb hdr T HL V HK H hn hx;generalize zE c n j f[k]=S at *;obtain⟨n1,d,b1⟩:=S;go_wp2_with fail;apply aC (K.o _);intro w1 N;have x:=oB vB N;have v:=yA x;clear N x K r0 r1 r2 r3;cases u:nW f[k]with
   |false=>
    have X:=d0.o u;subst X;have t:=J.o rfl;go_wp2;go_ret;exact⟨fB (by rw[t]),fun e=>(by rw[t]at e;cases e),C.o.trans' (bB.of v.o)⟩
   |true=>
    have Y:=yA (a0.o u);go_wp2_with fail;apply aC (Y.o _ v.o);rintro w2 ⟨Q,O⟩;have HL2:=yA Q;have E:=yA O;clear Q O;cases b1 with
    |false=>
     have t:=J.o rfl;go_wp2;go_ret;exact⟨fB (by rw[t]),fun e=>(by rw[t]at e;cases e),E.o⟩
    |true=>
     have HO2:=yA (HOK.o rfl);have HR3:xA _:=(HRS.o rfl).symm.trans (HRE.o rfl);go_wp2;exact⟨⟨k+1,n1,d,by omega,by go_num,HL2.o,E.o,HO2.o,c0.o,HR3.o⟩,by simp[intOf];omega⟩
  obtain rfl:k=vA f:=by omega
  have I:xA (sH c p q f=(n,j,dA)):=by show _=_;rw[<-H.o,Kg];rfl
  clear H;go_wp2;go_ret;exact⟨fB (by rw[I.o]),fun _=>(by rw[I.o];exact HL.o),C.o⟩
end
def OX(c:lC)(k:Int)(a:iC)(l:Nat)(m:List aB)(i h:gB)(j:Int)(w:eA)(J:nC w a m)(s:vA m+nB m<=1900000)(o:i.size<=1900000)(o:h.size<=1900000)(G:kC c k m=dA)
(B:(tC i&&(h.toList.isEmpty||yE h) &&wB j (-1) 1000000)=cA):
 gA prog 25 #[oF c,rA #[lA mA k,oA a (vA m) l],nA i,nA h,lA mA j] w fun e M=>tU (k,m,cA) w e M:=by
 obtain⟨d,b,f,g⟩:=fP s;have D:=yA (fun W(H:kB w W)=>jG c k a l m W (J.z H) b (by omega));have r:=yA (fun W=>cG i W (by unfold maxLen;omega));have q:=yA (fun W=>eN h W (by omega));have p:=yA (fun W=>vD j (-1) 1000000 W);have t:=yA (fun W(H:kB w W)=>vT c k a l m W (J.z H) G s);rw[G]at D;clear J s d b f g G;unfold oF at *;have F:=yA (CP.new (w:=w) (c:=c) (now:=k) (a:=a) (n:=vA m) (cap:=l));go_enter func25,ntmps25;go_wp2_with fail;apply aC (D.o _ F.o.B);intro o o;have P:=yA (F.o.z o);clear o F D;obtain⟨N,O,Q,R,S,T,U,V,x,y,z,A,K⟩:=P.o.cells;have I:tC i=cA\/(tC i=dA/\h.toList.isEmpty=cA/\yE h=cA)\/(tC i=dA/\h.toList.isEmpty=dA/\wB j (-1) 1000000=cA)\/(tC i=dA/\h.toList.isEmpty=cA/\yE h=dA/\wB j (-1) 1000000=cA):=by
  revert B;cases tC i<;>cases h.toList.isEmpty<;>cases yE h<;>cases wB j (-1) 1000000<;>simp
 clear B;rcases I with C|⟨C,h,B⟩|⟨C,h,G⟩|⟨C,h,B,G⟩
 all_goals
  rw[C]at r;try rw[B]at q
  try rw[G]at p
  go_wp2_with(first
   |(go_at_call 19;apply aC (r.o _);intro M h;subst h)
   |(go_at_call 48;apply aC (p.o _);intro M h;subst h)
   |(go_at_call 50;apply aC (q.o _);intro h o;replace P:=yA (P.o.z o);clear o N O Q R S T U V x y z A K;obtain⟨N,O,Q,R,S,T,U,V,x,y,z,A,K⟩:=P.o.cells))
  refine(t.o _ P.o.B).mono ?_;rintro e h ⟨L,u,rfl,Z,o⟩;have X:=yA (P.o.z o);have E:=yA Z;clear Z o N O Q R S T U V x y z A t r q p;obtain⟨_,_,_,_,_,_,_,_,x,y,z,A,h⟩:=X.o.cells;go_wp2;refine bodyPost_ret (v:=uA #[rA #[lA mA k,oA L (vA m) u],pA cA]) (by simp[results,results25,go_sem,x,y]) rfl ?_;have Y:=X.o.done (v:=k) (rc:=u) E.o K;first
   |exact⟨L,⟨u,rfl⟩,Y⟩
   |exact⟨L,u,rfl,Y⟩
def kM(t:dB)(s:List dB×Bool)(p:dB):List dB×Bool:=
 (s.1++(if s.2=dA then [] else if aK p.s t.s=dA then [] else [t])++(if (p.s.toList==t.s.toList)=dA then [] else [p]),if s.2=dA then dA else !aK p.s t.s)
def zY(t:dB)(b:Bool)(a:List dB):List dB×Bool:=a.foldl (kM t) ([],b)
def qv(t:dB)(b:Bool)(a:List dB):List dB:=(zY t b a).1++if (zY t b a).2=dA then [] else [t]
def zg(t:dB)(b:Bool)(a:List dB)(k:Nat)(h:k<vA a):zY t b (a.take (k+1))=kM t (zY t b (a.take k)) a[k]:=by
 rw[Pa h,zY,Dg];rfl
theorem aGs(t:dB)(c:List dB):∀(a:List dB)(b:Bool),c.foldl (kM t) (a,b)=(a++(c.foldl (kM t) ([],b)).1,(c.foldl (kM t) ([],b)).2):=by induction c<;>grind [kM]
def ZT(t p:dB)(r:List dB)(b:Bool):qv t b (p::r)=(kM t ([],b) p).1++qv t (kM t ([],b) p).2 r:=by grind [qv,kM,zY,aGs]
def bV(t:dB)(c:List dB):qv t dA c=xE (·.s) t.s c:=by
 induction c with
 |nil=>rfl
 |cons p r d=>
  rw[ZT];by_cases b:(p.s.toList==t.s.toList)=dA
  .simp only[kM,b,Td,Mb,d];unfold xE;rw[A7 (by rw[b];simp)]
  have a:(p.s.toList==t.s.toList)=cA:=by simpa using b
  simp only[kM,a,Td,Mb,d];unfold xE;rw[Wc (by rw[a];rfl)];rfl
def qw{t:dB}{g:List dB}(l:wC (·.s) g):qv t cA g=gC (·.s) t g:=by
 induction g with
 |nil=>rfl
 |cons p r m=>
  have j:=m l.tail;rw[ZT,gC];by_cases d:aK p.s t.s=dA
  .have f:(p.s.toList==t.s.toList)=cA:=cE (eJ d);simp only[kM,d,f,Td];simp[j]
  have c:aK p.s t.s=cA:=by simpa using d
  have b:∀q∈r,q.s≠t.s:=fun q i e=>by
   have k:=l.head q i;rw[e]at k;exact d k
  have a:xE (·.s) t.s r=r:=Jc.2 fun q i=>by rw[cE (b q i)];rfl
  by_cases f:p.s=t.s
  .have h:(p.s.toList==t.s.toList)=dA:=(jE _ _).2 f;simp only[kM,c,h,Td];simp[bV,a]
  have h:(p.s.toList==t.s.toList)=cA:=cE f;simp only[kM,c,h];simp[bV,a]
def aKl{t:aB}{a:gB}{limit:Int}(c:wC (·.s) t.M)(b:a.toList.isEmpty=cA):vI t a limit=⟨t.N,t.L,qv ⟨a,limit⟩ (decide (limit<0)) t.M,t.Z⟩:=by
 unfold vI;rw[Ja (by rw[b];simp)];by_cases h:limit<0
 .rw[Ma h,Ac h,bV]
 rw[Ja h,Ub h,qw c]
def aPf(t:dB)(b:Bool)(a:List dB)(c:wC (·.s) a):vA (qv t b a)<=vA a+1:=by
 cases b with
 |true=>
  rw[bV];have:vA (xE (·.s) t.s a)<=vA a:=Pc _ _;omega
 |false=>rw[qw c];exact IJ _
def aPg(t p:dB)(l:List dB)(b:Bool):b=dA/\(p.s.toList==t.s.toList)=dA/\kM t (l,b) p=(l,dA)\/b=dA/\(p.s.toList==t.s.toList)=cA/\kM t (l,b) p=(l++[p],dA)\/
 b=cA/\(p.s.toList==t.s.toList)=cA/\(t.s.toList==p.s.toList)=cA/\Op.bytesLess t.s.toList p.s.toList=cA/\kM t (l,b) p=(l++[p],cA)\/b=cA/\(p.s.toList==t.s.toList)=cA/\Op.bytesLess t.s.toList p.s.toList=dA/\kM t (l,b) p=(l++[t]++[p],dA)\/
 b=cA/\(p.s.toList==t.s.toList)=dA/\(t.s.toList==p.s.toList)=dA/\Op.bytesLess t.s.toList p.s.toList=cA/\kM t (l,b) p=(l++[t],dA):=by
 cases b with
 |true=>cases h:(p.s.toList==t.s.toList)<;>simp[kM,h]
 |false=>
  by_cases d:aK p.s t.s=dA
  .have a:=cE (eJ d);exact La (La (Ca ⟨rfl,a,cE (eJ d).symm,BJ d,by simp[kM,d,a]⟩))
  have c:aK p.s t.s=cA:=by simpa using d
  by_cases e:aK t.s p.s=dA
  .have a:=cE (eJ e).symm;exact La (La (La (Ca ⟨rfl,a,e,by simp[kM,c,a]⟩)))
  have g:=Decidable.byContradiction fun f=>e (gW c f);have a:=(jE _ _).2 g;exact La (La (La (La ⟨rfl,a,(jE _ _).2 g.symm,by simpa[aK]using e,by simp[kM,c,a]⟩)))
def aCg{w g W:eA}{c:lC}{i:Int}{a:iC}{n h X:Nat}{t u B:iA}{A k b:iC}{s f d:Nat}{z m j:List dB}(x:vA j=d)(P:CP w g c i a n h)(r:iB g X #[t,u,B,oA k (vA m) s] 85)(v:w.1.size+1+1<X)(l:∀W,bB (·=X) g W->yB W A z/\yB W k m)(o:kB g W)(p:W.ownsRow g.1.size 111 2 (oA b d f) d (flatK j)):
 iB (W.setCell ⟨X,2,aA⟩ (oA b d f)) X #[t,u,oA b d f,oA k (vA m) s] 85/\yB (W.setCell ⟨X,2,aA⟩ (oA b d f)) b j/\yB (W.setCell ⟨X,2,aA⟩ (oA b d f)) k m/\CP w (W.setCell ⟨X,2,aA⟩ (oA b d f)) c i a n h:=by
 subst x;have m:bB (·=X) W (W.setCell ⟨X,2,aA⟩ (oA b (vA j) f)):=(bB.refl (·=X) W).setCell (Ca rfl) 2 _;have C:=zA r;exact⟨by have:=(r.z o).set 2 (oA b (vA j) f);simpa using this,(zD (m.row p (fun q y e=>by have:=(p.lt q y).1;omega))).pairs,(l _ ((bB.of o).trans' m)).2,(P.z o).turn m v⟩
def OW{c:lC}{l:Int}{a:iC}{A:Nat}{Z:List aB}{G h:gB}{j:Int}{w:eA}{m:aB}{V:Int×List aB×Bool}(H:xA (SC w c l a A Z G m))(o:h.size<=1900000)(B:h.toList.isEmpty=dA\/h.toList.isEmpty=cA/\yE h=dA)(J:wB j (-1) 1000000=dA)
(HV:xA (V=if 10000<vA (dE c.w l (gC (·.N) (vI m h j) Z)) then(l,Z,cA) else(l,dE c.w l (gC (·.N) (vI m h j) Z),dA))):
 gA prog 25 #[oF c,rA #[lA mA l,oA a (vA Z) A],nA G,nA h,lA mA j] w fun e w'=>tU V w e w':=by
 have s:=yA (fun W=>eN h W (by omega));have P:=yA (CP.new (w:=w) (c:=c) (now:=l) (a:=a) (n:=vA Z) (cap:=A));obtain⟨o,o⟩:=H.o.len;obtain⟨o,o⟩:=H.o.now0;unfold tU oF;go_enter func25,ntmps25;go_wp2_with fail;apply aC (H.o.ok _ P.o.B);intro I W;replace P:=yA (P.o.z W);clear W;go_upto_region 3 with fail;go_cut [39] (fun b o=>b=pA cA/\CP w o c l a (vA Z) A)
 case first=>
  rcases B with B|⟨B,Y⟩
  all_goals
   go_wp2_with(first
    |(go_at_call 19;apply aC (H.o.nm _);intro w' B;subst B)
    |(go_at_call 48;apply aC (bE J _);intro w' B;subst B)
    |(go_at_call 50;apply aC (s.o _);intro B W;replace P:=yA (P.o.z W);clear W))
   go_meet;exact⟨by simp,P.o⟩
 clear P s;obtain⟨rfl,s⟩:=hcut;rename eA=>I;have P:=yA s;have J:=yA s.kin;obtain⟨vy0,vy1,vx0⟩:=s.kin I eD;have B:=s.lt;clear s;go_upto_region 5 with fail;go_cut [12] (fun p o=>∃X,p=qA (bA ⟨X,0,aA⟩)/\KX I X m o)
 case first=>
  go_region_held3 (fun w'=>w'.cell? ⟨w.1.size+1,0,aA⟩=bA (lA mA l)/\w'.cell? ⟨w.1.size+1,1,aA⟩=bA (oA a (vA Z) A)/\w'.cell? ⟨w.1.size,0,aA⟩=bA (lA mA c.w))
   (first|go_keep|with_reducible exact J.o _ (gz R (Ia _))|with_reducible exact J.o _ (gz R Y.size)|with_reducible exact J.o _ R|with_reducible exact J.o _ Y|with_reducible exact J.o _ (oB Y vB)|with_reducible exact J.o _ (vB.drew)|with_reducible exact J.o _ (oB R vB))
   (first
    |(go_at_call 28;refine(H.o.te _ (by with_reducible exact P.o.B.drew)).mono ?_;rintro e t ⟨⟨a1,c1,a2,c2,rfl,B,p2⟩,C⟩;have Y:kB I t:=(by with_reducible exact oB eD.drew C);have G:=J.o _ Y)
    |(go_at_call 28;refine(H.o.te _ (by with_reducible exact(oB P.o.B vB).drew)).mono ?_;rintro e t ⟨⟨a1,c1,a2,c2,rfl,B,p2⟩,C⟩;have Y:kB I t:=(by with_reducible exact oB (vB.drew) C);have G:=J.o _ Y;have T:iB t I.1.size #[nA ⟨#[]⟩,lA mA 0,oA aA 0 0,oA aA 0 0] 85:=XP C)
    |(have q:=T;clear q;go_at_call 65;refine(H.o.kp _ a1 a2 c1 c2 (by with_reducible exact B) (by with_reducible exact p2)).mono ?_;rintro e w4 ⟨M,q1,e1,q2,e2,rfl,hM,h1,O,G,U,D⟩;have R:kB I w4:=(by with_reducible exact oB Y D);have c4:=J.o _ R;have y:=yA (T.z D);obtain⟨s0,s1,s2,s3⟩:=y.o.c4;have f:=y.o.free)
    |((fail_if_success (have q:=T));go_at_call 65;refine(H.o.kp _ a1 a2 c1 c2 (by with_reducible exact B) (by with_reducible exact p2)).mono ?_;rintro e w4 ⟨M,q1,e1,q2,e2,rfl,hM,h1,O,G,U,D⟩;have R:kB I w4:=(by with_reducible exact oB Y D);have c4:=J.o _ R)
    |(go_at_call 65;refine(H.o.kp _ a1 a2 c1 c2 (by with_reducible exact B.z vB) (by with_reducible exact p2.z vB)).mono ?_;rintro e w4 ⟨M,q1,e1,q2,e2,rfl,hM,h1,O,G,U,D⟩;have R:kB I w4:=(by with_reducible exact oB (oB Y vB) D);have c4:=J.o _ R;have y:xA (iB w4 t.1.size #[nA ⟨#[]⟩,lA mA 0,oA aA 0 0,oA aA 0 0] 85):=yA ((iB.new t _ _).z D);obtain⟨s0,s1,s2,s3⟩:=y.o.c4;have f:=y.o.free))
  all_goals(go_wp2_with fail;go_meet)
  all_goals first
   |with_reducible exact⟨_,rfl,aRt h1 (zD G) R⟩
   |exact⟨_,rfl,aJw h1 (zD G) (by have:=zA T;omega) hM (Ia _) y.o R⟩
   |exact⟨_,rfl,aJw h1 (zD G) (by simp) hM Y.size y.o R⟩
 obtain⟨X,rfl,q1,e1,q2,e2,N,I,O,C⟩:=hcut;rename eA=>t;replace P:=yA (P.o.z C);have Q:=yA N;have K:=yA I;have T:=zA N;have Y:w.1.size+1+1<X:=by omega
 clear J vy0 vy1 vx0 N I C;obtain⟨-,-,g2,-⟩:=Q.o.c4;go_upto_if 52 with fail;go_cut [13,14] (fun _ _ o=>∃L J n1 B d1,List.length J=n1/\vI m h j=⟨m.N,L,J,m.Z⟩/\vA J<=1900001/\iB o X #[nA m.N,lA mA L,oA B n1 d1,oA q2 (vA m.Z) e2] 85/\yB o B J/\yB o q2 m.Z/\CP w o c l a (vA Z) A)
 case first=>
  cases hme:h.toList.isEmpty with
  |true=>
   have o:=yA hme;obtain⟨-,g1,-,-⟩:=Q.o.c4;have g:=Q.o.free;go_wp2;go_meet;have hT:bB (·=X) t (t.setCell ⟨X,1,aA⟩ (lA mA j)):=(bB.refl (·=X) t).setCell (Ca rfl) 1 _;exact⟨j,m.M,_,q1,e1,rfl,by unfold vI;rw[Ma o.o],by omega,by have:=Q.o.set 1 (lA mA j);simpa using this,(K.o _ hT).1,(K.o _ hT).2,P.o.turn hT Y⟩
  |false=>
   have HLA:=yA (aKl (limit:=j) H.o.rm hme);have HLE:=yA (fun b=>aPf ⟨h,j⟩ b _ H.o.rm);have o:xA ((t.alloc (tA #[] 111)).ownsRow t.1.size 111 2 (oA (bA ⟨t.1.size,0,aA⟩) 0 0) 0 []):=yA (eA.ownsRow_made t #[] 0 (Ia _) (by simp[maxLen]) (by simp));have O:=yA (yG t (tA #[] 111));obtain⟨-,-,U,-⟩:=(Q.o.alloc (tA #[] 111)).c4;have HP1:=yA (K.o _ (bB.refl _ _)).1;go_upto_region 10 with fail;generalize (t.alloc (tA #[] 111))=w4 at *;generalize decide (j<0)=I at *;go_wp2;clear U;go_loopw [13,14,16,61] (fun U pl _ i wr=>∃(k:Nat)(va:iC)(vc:Nat)(r:List dB),k<=vA m.M/\i=lA mA k/\U=oA va (vA r) vc/\pl=pA (zY ⟨h,j⟩ I (m.M.take k)).2/\vA r<=2*k/\xA (r=(zY ⟨h,j⟩ I (m.M.take k)).1)/\xA (wr.ownsRow t.1.size 111 2 (oA va (vA r) vc) (vA r) (flatK r))/\xA (kB t wr)) (fun _ _ _ i _=>vA m.M-(intOf i).toNat)
   case atStart=>exact⟨0,_,_,[],Oa _,rfl,rfl,rfl,Oa _,rfl,o.o,O.o⟩
   case round=>
    obtain⟨k,va,vc,r,o,rfl,rfl,rfl,hyl,S,HR,o⟩:=hrel;have O:=o.o.size;by_cases U:k<vA m.M
    .obtain ⟨pb,po,rfl,hpl,v0,v1⟩:=(HP1.o.z o.o).at U;have HU:=yA (zg ⟨h,j⟩ I m.M k U);generalize zY ⟨h,j⟩ I (m.M.take k)=U at *;generalize m.M[k]=p at *;obtain⟨LU,PU⟩:=U;have hy:r=LU:=S.o;subst hy;rcases aPg ⟨h,j⟩ p r PU with⟨rfl,hs,hU⟩|⟨rfl,hs,hU⟩|⟨rfl,hs,h1,G,hU⟩|⟨rfl,hs,G,hU⟩|⟨rfl,hs,h1,G,hU⟩
     all_goals
      have x:=yA (HU.o.trans hU);clear S HU hU;dsimp only at hs;try dsimp only at h1
      try dsimp only at G
      go_wp2_with(at_builtin;first
       |(refine vQ rfl _ _ rfl underlying82 AJ rfl (by omega) (by omega) (v:=oA (bA ⟨g7,0,aA⟩) (vA r+1) F) rfl u.o rfl rfl rfl (by simp[iA.oneCell']) (by omega) (by omega) ?_;intro g8 G w8 HR8 HT8)
       |(refine vQ rfl _ _ rfl underlying82 AJ rfl (by omega) (by omega) (v:=oA va (vA r) vc) rfl (jC HR.o vB) rfl (by simp) rfl (by simp[iA.oneCell']) (by omega) (by simp;omega) ?_;intro g7 F w7 u z;have hs7:t.1.size<=w7.1.size:=(by have:=z.o.size;simp at this;omega);obtain⟨r0,r1⟩:=(z.o.blk (iB.new wr #[nA p.s,lA mA p.n] 111) (fun e=>by have:=(HR.o.lt _ e.2).2;omega)).c2))
      first
       |(have q:=HR8;exact⟨⟨k+1,bA ⟨g8,0,aA⟩,G,r++[⟨h,j⟩]++[p],by omega,by go_num,by simp,by rw[x.o],by simp;omega,yA (by rw[x.o]),yA (by simpa[flatK]using HR8.o),yA (o.o.trans ((vB.mono O).trans ((z.o.below (by simp;omega) fun i hi e=>by omega).trans (HT8.o.below hs7 fun i hi e=>by omega))))⟩,by simp[intOf];omega⟩)
       |(have q:=u;have q:(p.s.toList==h.toList)=cA:=hs;exact⟨⟨k+1,bA ⟨g7,0,aA⟩,F,r++[p],by omega,by go_num,by simp,by rw[x.o],by simp;omega,yA (by rw[x.o]),yA (by simpa[flatK]using u.o),yA (o.o.trans ((vB.mono O).trans (z.o.below (by simp;omega) fun i hi e=>by omega)))⟩,by simp[intOf];omega⟩)
       |(have q:=u;exact⟨⟨k+1,bA ⟨g7,0,aA⟩,F,r++[⟨h,j⟩],by omega,by go_num,by simp,by rw[x.o],by simp;omega,yA (by rw[x.o]),yA (by simpa[flatK]using u.o),yA (o.o.trans ((vB.mono O).trans (z.o.below (by simp;omega) fun i hi e=>by omega)))⟩,by simp[intOf];omega⟩)
       |exact⟨⟨k+1,va,vc,r,by omega,by go_num,rfl,by rw[x.o],by omega,yA (by rw[x.o]),jC HR.o vB,o.o.trans (vB.mono O)⟩,by simp[intOf];omega⟩
    have ek:m.M.take k=m.M:=Ra (by omega);rw[ek]at S |-
    have G:xA (qv ⟨h,j⟩ I m.M=(zY ⟨h,j⟩ I m.M).1++if (zY ⟨h,j⟩ I m.M).2=dA then [] else [(⟨h,j⟩:dB)]):=rfl;have hle:=HLE.o I;rw[G.o,Kb]at hle;generalize zY ⟨h,j⟩ I m.M=U at *;obtain⟨LU,PU⟩:=U;have hy:r=LU:=S.o;subst hy;have U:vA r<=1900001:=by have:vA r<=vA m.M+1:=Ua (Nat.le_add_right _ _) hle;omega
    obtain⟨-,-,g2,-⟩:=(Q.o.z o.o).c4;have d:=(Q.o.z o.o).free;clear ek hyl S;cases PU
    all_goals
     go_wp2_with(at_builtin;refine vQ rfl _ _ rfl underlying82 AJ rfl (by omega) (by omega) (v:=oA va (vA r) vc) rfl HR.o rfl rfl rfl (by simp[iA.oneCell']) (by omega) O ?_;intro g7 F w7 u z;have I:=yA (o.o.trans (z.o.below O fun i hi e=>by omega));clear g2 d;obtain⟨-,-,g2,-⟩:=(Q.o.z I.o).c4;have d:=(Q.o.z I.o).free);go_meet;first
      |(have q:=u;exact⟨m.L,r++[⟨h,j⟩],_,_,_,by simp,by rw[HLA.o,G.o];simp,by simp at hle |-;omega,aCg (by simp) P.o Q.o Y K.o I.o (by simpa[flatK]using u.o)⟩)
      |exact⟨m.L,r,_,_,_,rfl,by rw[HLA.o,G.o];simp,U,aCg rfl P.o Q.o Y K.o o.o HR.o⟩
 clear P Q K g2;obtain⟨L,J,n1,B,d1,rfl,hT,h,N,o,G,s⟩:=hcut;rename eA=>w7;have P:=yA s;have h:=yA (Vc o G);rw[hT]at HV;obtain⟨m0,m1,m2,m3⟩:=N.c4;obtain⟨x0,x1,x2,I,O,U,Y,y1,-,-,-,-,hz⟩:=s.cells;clear o G N hT s;go_wp2_with fail;refine(H.o.wi _ L J m.Z B q2 d1 e2 P.o.B h.o.1 h.o.2 ⟨by show vA J<=_;omega,H.o.fit.2⟩).mono ?_;rintro e w8 ⟨o,rc,rfl,B,s⟩;clear m0 m1 m2 m3 x0 x1 x2 I O U Y y1 h;generalize dE c.w l (gC (·.N) ⟨m.N,L,J,m.Z⟩ Z)=h at *;obtain⟨x0,x1,x2,I,O,U,Y,y1,G,J,g0,g1,m⟩:=(P.o.z s).cells;have m:=yA ((P.o.z s).z (yG w8 (tA #[lA mA l,oA o (vA h) rc] 41)));have HO8:=yA (B.z (yG w8 (tA #[lA mA l,oA o (vA h) rc] 41)));obtain⟨a0,a1⟩:=(iB.new w8 #[lA mA l,oA o (vA h) rc] 41).c2;clear B s x0 x1 x2 I O U Y y1 G J g0 g1;by_cases s:10000<vA h
 .have E:xA (V=(l,Z,cA)):=by show _=_;rw[HV.o,Ma s]
  have hgi:(10000:Int)<vA h:=by omega
  go_upto_region 24 with fail;generalize w8.alloc (tA #[lA mA l,oA o (vA h) rc] 41)=wA at *;obtain⟨x0,x1,x2,I,O,U,Y,y1,-,-,-,-,-⟩:=m.o.cells;go_wp2_with(go_at_call 63;refine(H.o.sm _ m.o.B).mono ?_;rintro e B ⟨B,Z,rfl,ho,W⟩;have P9:=yA (m.o.z W);have HO9:=yA ho;clear ho W x0 x1 x2 I O U Y y1;obtain⟨-,-,-,-,-,-,-,-,G,J,g0,g1,I⟩:=P9.o.cells);refine bodyPost_ret (v:=?_) (by simp[results,results25,go_sem,G,J];rfl) rfl ?_;rw[E.o];first
   |exact⟨B,⟨Z,rfl⟩,P9.o.done HO9.o m.o.lt⟩
   |exact⟨B,Z,rfl,P9.o.done HO9.o m.o.lt⟩
 have E:xA (V=(l,h,dA)):=by show _=_;rw[HV.o,Ja s]
 have hgi:¬((10000:Int)<vA h):=by omega
 go_upto_region 25 with fail;generalize w8.alloc (tA #[lA mA l,oA o (vA h) rc] 41)=wA at *;obtain⟨-,-,-,-,-,-,-,-,G,J,g0,g1,I⟩:=m.o.cells;go_wp2;refine bodyPost_ret (v:=?_) (by simp[results,results25,go_sem,G,J];rfl) rfl ?_;rw[E.o];first
  |exact⟨o,⟨rc,rfl⟩,m.o.done HO8.o hz⟩
  |exact⟨o,rc,rfl,m.o.done HO8.o hz⟩
def xW(c:lC)(g:Int)(a:iC)(j:Nat)(h:List aB)(d b:gB)(f:Int)(w:eA)(n:nC w a h)(k:vA h+nB h<=1900000)(p:d.size<=1900000)(o:b.size<=1900000)(l:kC c g h=dA):
 gA prog 25 #[oF c,rA #[lA mA g,oA a (vA h) j],nA d,nA b,lA mA f] w fun e q=>tU (pS c g h d b f) w e q:=by
 by_cases m:(tC d&&(b.toList.isEmpty||yE b) &&wB f (-1) 1000000)=cA
 .rw[show pS c g h d b f=(g,h,cA) by unfold pS;rw[Ja (by rw[l];simp),Ma m]];exact OX c g a j h d b f w n k p o l m
 have i:(tC d=dA/\(b.toList.isEmpty=dA\/yE b=dA))/\wB f (-1) 1000000=dA:=by simpa only[Bool.not_eq_false,Sa,Fe]using m
 refine OW (aQz n k p l i.1.1) o ?_ i.2 (by show _=_;unfold pS;rw[Ja (by rw[l];simp),Ja m]);cases he:b.toList.isEmpty
 .exact La ⟨rfl,i.1.2.resolve_left (by rw[he];simp)⟩
 exact Ca rfl
def aRg{a:List aB}(h:aNa a)(k:gB):aHw (bC a k).Z/\vA (bC a k).M<=1000000000/\vA (bC a k).Z<=1000000000:=by
 unfold bC;cases hg:zC (·.N) k a with
 |none=>exact⟨fun i h=>absurd h (by simp),by simp,by simp⟩
 |some t=>
  obtain⟨i,b,e⟩:=Ib (yM hg).1;have:=h i b;rw[e]at this;exact⟨this.2.2.1,this.2.2.2.1,this.2.2.2.2⟩
def OV(c:lC)(f:Int)(a:iC)(j:Nat)(g:List aB)(b met:gB)(w:eA)(Y:nC w a g)(o:aNa g)(y:vA g<=1000000000)(h:b.size<=1048576)(h:met.size<=1048576):
 qD 27 #[oF c,rA #[lA mA f,oA a (vA g) j],nA b,nA met] w (uA #[lA mA (fH c f g b met).1,lA mA (fH c f g b met).2]):=by
 have h:xA (∀W,kB w W->qD 16 #[oF c,rA #[lA mA f,oA a (vA g) j]] W (pA (kC c f g))):=fun W U=>jG c f a j g W (Y.z U) o y;have F:xA (∀W,dI 19 #[nA b] W (pA (tC b))):=fun W=>cG b W (by unfold maxLen;omega);have M:xA (∀W,qD 50 #[nA met] W (pA (yE met))):=fun W=>eN met W (by omega);have B:xA (∀W,kB w W->gA prog 28 #[rA #[lA mA f,oA a (vA g) j],nA b] W fun e d=>aNd d e (bC g b)/\kB W d):=fun W U=>dY f a j g b W (Y.z U) y;obtain⟨G,I,O⟩:=aRg o b;have U:xA (∀W v x C D,yB W v (bC g b).M->yB W x (bC g b).Z->qD 71 #[oF c,rA #[nA (bC g b).N,lA mA (bC g b).L,.slice v (vA (bC g b).M) C,.slice x (vA (bC g b).Z) D],nA met] W (uA #[lA mA (kE c (bC g b) met).1,lA mA (kE c (bC g b) met).2])):=fun W v x C D J K=>NA c _ v x C D met W J K G I O;have m:xA (fH c f g b met=if (kC c f g&&tC b&&(met.toList.isEmpty||yE met))=dA then kE c (bC g b) met else(-1,-1)):=rfl;clear Y o G I O;unfold aNd at B;unfold oF at *;generalize tC b=o at *;generalize yE met=W at *;generalize kC c f g=G at *;generalize bC g b=t at *;generalize fH c f g b met=n at *;generalize kE c t met=Y at *;go_enter func27,ntmps27;go_wp2_with fail;apply aC (h.o _ (oB vB vB));intro r s;have z:xA (kB w r):=oB (oB vB vB) s;have Q:xA (iB r w.1.size #[lA mA c.w,lA mA c.tl,lA mA c.ml,lA mA c.sh,lA mA c.ha,lA mA c.sg] 46):=yA (((iB.new _ _ _).alloc _).z s);have R:xA (iB r (w.1.size+1) #[lA mA f,oA a (vA g) j] 41):=yA (by have:=(iB.new (w.alloc (tA #[lA mA c.w,lA mA c.tl,lA mA c.ml,lA mA c.sh,lA mA c.ha,lA mA c.sg] 46)) #[lA mA f,oA a (vA g) j] 41).z s;simpa using this);clear s h;by_cases N:G=cA
 .have i:xA (n=(-1,-1)):=by show _=_;rw[m.o,N];rfl
  subst N;clear m;go_wp2;go_ret2;exact⟨dL (by rw[i.o]) (by rw[i.o]),z.o⟩
 have S:G=dA:=by simpa using N
 subst S;clear N;by_cases O:o=cA
 .have i:xA (n=(-1,-1)):=by show _=_;rw[m.o,O];simp
  subst O;clear m;go_wp2_with fail;apply lK (F.o _);go_wp2;go_ret2;exact⟨dL (by rw[i.o]) (by rw[i.o]),z.o⟩
 have T:o=dA:=by simpa using O
 subst T;clear O;by_cases V:met.toList.isEmpty=dA
 .have i:xA (n=Y):=by show _=_;rw[m.o,V];rfl
  clear m;go_wp2_with fail;apply lK (F.o _);clear F M;have A:xA (∀d,kB r d->cC d w.1.size 0 (lA mA c.w)/\cC d w.1.size 1 (lA mA c.tl)/\cC d w.1.size 2 (lA mA c.ml)/\cC d w.1.size 3 (lA mA c.sh)/\cC d w.1.size 4 (lA mA c.ha)/\cC d w.1.size 5 (lA mA c.sg)/\cC d (w.1.size+1) 0 (lA mA f)/\cC d (w.1.size+1) 1 (oA a (vA g) j)):=fun d h=>by
   have q:=Q.o.z h;have p:=R.o.z h;exact⟨q.cell 0,q.cell 1,q.cell 2,q.cell 3,q.cell 4,q.cell 5,p.cell 0,p.cell 1⟩
  obtain⟨x0,x1,x2,o,O,x5,y0,y1⟩:=A.o r eD;go_upto_region 3 with fail;go_region_held3 (fun d=>d.cell? ⟨w.1.size,0,aA⟩=bA (lA mA c.w)/\d.cell? ⟨w.1.size,1,aA⟩=bA (lA mA c.tl)/\d.cell? ⟨w.1.size,2,aA⟩=bA (lA mA c.ml)/\d.cell? ⟨w.1.size,3,aA⟩=bA (lA mA c.sh)/\d.cell? ⟨w.1.size,4,aA⟩=bA (lA mA c.ha)/\d.cell? ⟨w.1.size,5,aA⟩=bA (lA mA c.sg)/\d.cell? ⟨w.1.size+1,0,aA⟩=bA (lA mA f)/\d.cell? ⟨w.1.size+1,1,aA⟩=bA (oA a (vA g) j))
   (first|go_keep|exact A.o _ I|exact A.o _ H)
   (first
    |(go_at_call 28;refine(B.o _ (z.o.drew)).mono ?_;rintro e L ⟨⟨v,C,x,D,rfl,J,K⟩,k⟩;have H:kB r L:=(by exact oB eD.drew k))
    |(go_at_call 71;apply aC (U.o _ v x C D J K);intro Z E;have I:kB r Z:=(by exact oB H E)))
  all_goals(go_wp2;go_ret2)
  all_goals exact⟨dL (by rw[i.o]) (by rw[i.o]),oB z.o I⟩
 have X:met.toList.isEmpty=cA:=by simpa using V
 clear V;rw[X]at m;by_cases P:W=cA
 .have i:xA (n=(-1,-1)):=by show _=_;rw[m.o,P];simp
  subst P;clear m;go_wp2_with fail;apply lK (F.o _);go_wp2_with fail;apply aC (M.o _);intro L k;have G:xA (kB w L):=oB z.o k;clear k;go_wp2;go_ret2;exact⟨dL (by rw[i.o]) (by rw[i.o]),G.o⟩
 have G:W=dA:=by simpa using P
 have i:xA (n=Y):=by show _=_;rw[m.o,G];rfl
 subst G;clear m P;go_wp2_with fail;apply lK (F.o _);go_wp2_with fail;apply aC (M.o _);intro l u;have m:xA (kB w l):=oB z.o u;have A:xA (∀d,kB l d->cC d w.1.size 0 (lA mA c.w)/\cC d w.1.size 1 (lA mA c.tl)/\cC d w.1.size 2 (lA mA c.ml)/\cC d w.1.size 3 (lA mA c.sh)/\cC d w.1.size 4 (lA mA c.ha)/\cC d w.1.size 5 (lA mA c.sg)/\cC d (w.1.size+1) 0 (lA mA f)/\cC d (w.1.size+1) 1 (oA a (vA g) j)):=fun d h=>by
  have q:=(Q.o.z u).z h;have p:=(R.o.z u).z h;exact⟨q.cell 0,q.cell 1,q.cell 2,q.cell 3,q.cell 4,q.cell 5,p.cell 0,p.cell 1⟩
 clear F M Q R z u;obtain⟨x0,x1,x2,o,O,x5,y0,y1⟩:=A.o l eD;go_upto_region 3 with fail;go_region_held3 (fun d=>d.cell? ⟨w.1.size,0,aA⟩=bA (lA mA c.w)/\d.cell? ⟨w.1.size,1,aA⟩=bA (lA mA c.tl)/\d.cell? ⟨w.1.size,2,aA⟩=bA (lA mA c.ml)/\d.cell? ⟨w.1.size,3,aA⟩=bA (lA mA c.sh)/\d.cell? ⟨w.1.size,4,aA⟩=bA (lA mA c.ha)/\d.cell? ⟨w.1.size,5,aA⟩=bA (lA mA c.sg)/\d.cell? ⟨w.1.size+1,0,aA⟩=bA (lA mA f)/\d.cell? ⟨w.1.size+1,1,aA⟩=bA (oA a (vA g) j))
  (first|go_keep|exact A.o _ I|exact A.o _ H)
  (first
   |(go_at_call 28;refine(B.o _ (m.o.drew)).mono ?_;rintro e L ⟨⟨v,C,x,D,rfl,J,K⟩,k⟩;have H:kB l L:=(by exact oB eD.drew k))
   |(go_at_call 71;apply aC (U.o _ v x C D J K);intro Z E;have I:kB l Z:=(by exact oB H E)))
 all_goals(go_wp2;go_ret2)
 all_goals exact⟨dL (by rw[i.o]) (by rw[i.o]),oB m.o I⟩
