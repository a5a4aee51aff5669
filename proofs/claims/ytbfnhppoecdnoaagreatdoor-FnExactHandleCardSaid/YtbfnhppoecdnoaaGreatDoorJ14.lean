import Derived.Test.YtbfnhppoecdnoaaGreatDoorJ09
import Derived.Test.YtbfnhppoecdnoaaGreatDoorJ11
set_option maxRecDepth 100000
set_option maxHeartbeats 4000000
set_option linter.defProp false
open Option renaming some->bA,none->aA
open Bool renaming true->dA,false->cA
open ByteArray renaming empty->kA
open List renaming length->vA
namespace Go.Proofs.YtbfnhppoecdnoaaGreatDoor
open Go renaming World->eA,Value->iA,Calls->gA,TypeId->jA
open Value renaming string->nA,int->lA,slice->oA,bool->pA,tuple->uA,pointer->qA
open IntKind renaming i64->mA
open Ending renaming returned->sA
open Obj renaming cells->tA
open Go.RowKit Tryz
def VI(f:cB)(left:Int)(w:eA)(k:0<=left)(l:left<=1048576)(g:f.N.size<=maxLen)(d:f.data.size<=maxLen):
 qD 97 #[.agg #[nA f.N,nA f.data,lA mA f.Y],lA mA left] w (lA mA (szF left f)):=by
 unfold maxLen at g d;obtain⟨a,b,c⟩:=f;simp only at g d |-
 by_cases i:left-a.size<0
 .have e:szF left ⟨a,b,c⟩= -1:=by unfold szF;rw[Ja];simp only;omega
  rw[e];go_enter func97,ntmps97;go_wp2;go_ret;exact⟨rfl,eD.alloc (Ia _) _⟩
 by_cases j:left-a.size-b.size<0
 .have e:szF left ⟨a,b,c⟩= -1:=by unfold szF;rw[Ja];simp only;omega
  rw[e];go_enter func97,ntmps97;go_wp2;go_ret;exact⟨rfl,eD.alloc (Ia _) _⟩
 have e:szF left ⟨a,b,c⟩=left-a.size-b.size:=by unfold szF;rw[Ma];simp only;omega
 rw[e];go_enter func97,ntmps97;go_wp2;go_ret;exact⟨rfl,eD.alloc (Ia _) _⟩
def OF(a:iC)(p:Nat)(c:List cB)(left:Int)(w:eA)(D:0<=left)(F:left<=1048576)(q:eB w a c)(s:pL c)(n:vA c<=maxLen):
 qD 45 #[oA a (vA c) p,lA mA left] w (lA mA (oR left c)):=by
 unfold maxLen at n;by_cases y:left-vA c<0
 .have e:oR left c = -1:=by unfold oR;rw[Ja];omega
  rw[e];clear q s;go_enter func45,ntmps45;go_wp2;go_ret;exact⟨rfl,eD⟩
 have v:xA (eB w a c):=q;have x:xA (pL c):=s;clear q s;go_enter func45,ntmps45;go_wp2;go_loopw [1,5] (fun l i wr=>∃k:Nat,k<=vA c/\i=lA mA k/\(bulk (c.take k):Int)<=left-vA c/\l=lA mA (left-vA c-bulk (c.take k))/\kB w wr) (fun _ i _=>vA c-(intOf i).toNat)
 case atStart=>exact⟨0,Oa _,rfl,by simp[bulk];omega,by simp[bulk],eD⟩
 case round=>
  obtain⟨k,H,rfl,r,rfl,d⟩:=hrel;by_cases h:k<vA c
  .obtain ⟨b,o,rfl,G,A,y,B⟩:=(v.o.z d).at h;have f:=x.o k h;have j:=QO c k h;have z:=cu c (k+1);by_cases C:((c[k].N.size+c[k].data.size:Nat):Int)<=left-vA c-bulk (c.take k)
   .have e:szF (left-vA c-bulk (c.take k)) c[k]=left-vA c-bulk (c.take (k+1)):=by
     unfold szF;rw[Ma (by omega),j];omega
    have E:xA _:=e;have m:(bulk (c.take (k+1)):Int)<=left-vA c:=by omega
    clear e j;go_wp2_with fail;refine aC (VI c[k] _ _ (by omega) (by omega) f.1 f.2) ?_;intro t g;rw[E.o];go_wp2;exact⟨⟨k+1,by omega,by go_num,m,rfl,d.trans (g.mono d.size)⟩,by simp[intOf];omega⟩
   .have e:szF (left-vA c-bulk (c.take k)) c[k]= -1:=by
     unfold szF;rw[Ja (by omega)]
    have E:xA _:=e;have u:xA (oR left c = -1):=by show oR left c = -1;unfold oR;rw[Ja (by omega)]
    clear e j;go_wp2_with fail;refine aC (VI c[k] _ _ (by omega) (by omega) f.1 f.2) ?_;intro t g;rw[E.o];go_wp2;go_ret;exact⟨fD u.o.symm,d.trans (g.mono d.size)⟩
  go_wp2;go_ret;have e:c.take k=c:=Ra (by omega);rw[e]at r |-
  exact⟨fD (by unfold oR;rw[Ma (by omega)]),d⟩
def aAg(a:iC)(f:Nat)(b:List cB)(c k p r:Int)(q:Bool)(left:Int)(w:eA)(l:0<=left)(m:left<=1048576)(n:eB w a b)(o:pL b)(d:vA b<=maxLen):
 qD 12 #[.agg #[oA a (vA b) f,lA mA c,lA mA k,lA mA p,lA mA r,pA q],lA mA left] w (lA mA (oR left b)):=by
 have i:xA (eB w a b):=n;clear n;by_cases j:oR left b<0
 .have E:xA (oR left b = -1):=by show oR left b = -1;unfold oR at j |-;split at j<;>omega
  go_enter func12,ntmps12;go_wp2_with fail;apply aC (OF a f b left _ l m (i.o.z (eD.alloc (Ia _) _)) o d);intro h g;go_wp2;go_ret;exact⟨fD E.o.symm,(eD.alloc (Ia _) _).trans (g.mono (by simp))⟩
 go_enter func12,ntmps12;go_wp2_with fail;apply aC (OF a f b left _ l m (i.o.z (eD.alloc (Ia _) _)) o d);intro h g;go_wp2;go_ret;exact⟨rfl,(eD.alloc (Ia _) _).trans (g.mono (by simp))⟩
def KF(w:eA)(h:gB)(t:aB)(e:Ending)(a:eA):Prop:=
 ∃M b d c f,e=sA (.agg #[nA h,lA mA t.L,oA b (vA t.M) d,oA c (vA t.Z) f])/\w.1.size<=M/\mC a w.1.size b t.M/\(∀g o,b=bA ⟨g,o,aA⟩->g<M)/\mC a M c t.Z/\M<=a.1.size/\kB w a
def flatK(a:List dB):List iA:=a.flatMap fun x=>[nA x.s,lA mA x.n]
def bo(w:eA)(h:gB)(t:aB)(e:Ending)(a:eA):Prop:=
 ∃M b f c d,e=sA (.agg #[nA h,lA mA t.L,oA b (vA t.M) f,oA c (vA t.Z) d])/\w.1.size<=M/\mC a w.1.size b t.M/\(∀g o,b=bA ⟨g,o,aA⟩->g<M)/\a.ownsRow M 88 2 (oA c (vA t.Z) d) (vA t.Z) (flatK t.Z)/\M<=a.1.size/\kB w a
def bo.tel{w:eA}{a:gB}{t:aB}{e:Ending}{b:eA}(h:bo w a t e b):KF w a t e b:=by
 obtain⟨M,c,f,d,g,i,j,k,l,m,n⟩:=h;exact⟨M,c,f,d,g,i,j,k,l,zD m,n⟩
def xX(a b:List dB):flatK (a++b)=flatK a++flatK b:=by simp[flatK]
def xM(a:List dB):vA (flatK a)=vA a*2:=by induction a<;>grind [flatK]
def lQ(b:List dB):∀u∈flatK b,u.oneCell'=dA:=by
 intro u a;simp only[flatK,Ig]at a;obtain⟨x,_,a⟩:=a;simp only[Lb,List.mem_nil_iff,Bf]at a;rcases a with rfl|rfl<;>rfl
def YN:∀(a:List dB)(j:Nat)(u:iA),(flatK a)[j]?=bA u->∃i,∃h:i<vA a,(j=i*2/\u=nA a[i].s)\/(j=i*2+1/\u=lA mA a[i].n)
 |[],j,u,h=>by simp[flatK]at h
 |x::r,0,u,h=>⟨0,by simp,Ca ⟨rfl,by simpa[flatK]using h.symm⟩⟩
 |x::r,1,u,h=>⟨0,by simp,La ⟨rfl,by simpa[flatK]using h.symm⟩⟩
 |x::r,j+2,u,h=>by
  have b:(flatK r)[j]?=bA u:=by simpa[flatK]using h
  obtain⟨i,c,q⟩:=YN r j u b;refine⟨i+1,by simpa using c,?_⟩;rcases q with⟨e,q⟩|⟨e,q⟩;exact Ca ⟨by omega,by simpa using q⟩;exact La ⟨by omega,by simpa using q⟩
def jO{w:eA}{b o:Nat}{c:List dB}(h:∀i(d:i<vA c),w.cell? ⟨b,o+i*2,aA⟩=bA (nA c[i].s)/\w.cell? ⟨b,o+i*2+1,aA⟩=bA (lA mA c[i].n)):
 ∀j u,(flatK c)[j]?=bA u->w.cell? ((⟨b,o,aA⟩:Addr).add j)=bA u:=by
 intro j u e;have a:(⟨b,o,aA⟩:Addr).add j=⟨b,o+j,aA⟩:=by unfold Addr.add;split<;>simp_all
 rw[a];obtain⟨i,d,q⟩:=YN c j u e;rcases q with⟨rfl,rfl⟩|⟨rfl,rfl⟩;exact (h i d).1;exact (h i d).2
def vw(B g b i:Nat)(l:List cB)(w:eA)(y:w.ownsRow B 149 3 (oA (bA ⟨g,0,aA⟩) (vA l) b) (vA l) (flat l))(X:i<vA l)(Y:vA l<=1048576):
 gA prog 297 #[oA (bA ⟨g,0,aA⟩) (vA l) b,lA mA i,lA mA ((i:Int)+1)] w fun e w'=>
  e=sA (oA (bA ⟨g,0,aA⟩) (vA l-1) b)/\w'.ownsRow B 149 3 (oA (bA ⟨g,0,aA⟩) (vA l-1) b) (vA l-1) (flat (l.eraseIdx i))/\gE (fun k=>k=g) w w':=by
 obtain⟨K,hB,_,r,hnc,E,C,t⟩:=gS y;obtain⟨Z,F,Q,R,hz2⟩:=aM;obtain⟨n,H⟩:∃n,vA l=n:=⟨_,rfl⟩
 obtain⟨a,d⟩:∃a,a=flat (l.drop (i+1)):=⟨_,rfl⟩
 have f:vA a=(n-(i+1))*3:=by rw[d,tE,Rc,H]
 have L:vA (flat l)=n*3:=by rw[tE,H]
 have m:∀j,j<n*3->(w.cell? ⟨g,j,aA⟩).isSome=dA:=fun j M=>by rw[t j _ (Va (by omega))];rfl
 obtain⟨A,hA,J⟩:∃A:Addr,(if b=i+1 then bA (⟨g,0,aA⟩:Addr) else bA ⟨g,(i+1)*3,aA⟩)=bA A/\xA (∀j u,a[j]?=bA u->w.drew.cell? (A.add j)=bA u):=by
  by_cases h:b=i+1
  .refine ⟨⟨g,0,aA⟩,by simp[h],fun j u o=>?_⟩;have h0:vA a=0:=by rw[f];omega
   rw[Nb.1 h0]at o;simp at o
  refine ⟨⟨g,(i+1)*3,aA⟩,by simp[h],fun j u o=>?_⟩;rw[d,tV l (i+1) j (by omega)]at o;rw[Addr.add_lit];exact t _ _ o
 have s1:xA _:=f;have s2:xA (∀u∈a,u.oneCell'=dA):=by rw[d];exact iG _
 have s3:xA (∀j,j<vA a->(w.drew.cell? ⟨g,0+i*3+j,aA⟩).isSome=dA/\w.drew.frozen? ⟨g,0+i*3+j,aA⟩=cA):=by
  intro j M;rw[f]at M;exact⟨m _ (by omega),r.free _⟩
 obtain⟨x,p⟩:∃x,x=w.drew.setCells g (0+i*3) a:=⟨_,rfl⟩
 have s:iB w.drew g K 149:=r;obtain⟨U,q,z⟩:=iB.setCells a (0+i*3) s;rw[<-p]at q;have hcl:∀T c,(Builtin.clear_ #[35] T #[oA (bA ⟨g,(n-1)*3,aA⟩) 1 c]).run prog x=.ok (uA #[]) (x.setCells g ((n-1)*3) BI):=fun T c=>
  WR x _ T _ Z underlying35 F Q g _ c (fun j M=>by obtain⟨v,hv⟩:=q.there (j:=(n-1)*3+j) (by rw[z,C];omega);rw[hv];rfl) (fun j _=>q.free _)
 obtain⟨V,D,I⟩:=iB.setCells BI ((n-1)*3) q;have HK:xA (gE (fun k=>k=g) w (x.setCells g ((n-1)*3) BI)):=by
  show gE _ _ _;rw[p];exact gE.setCells (S:=fun k=>k=g) rfl _ _ (gE.setCells (S:=fun k=>k=g) rfl _ _ (gE.refl _ _).drew)
 have HO:xA ((x.setCells g ((n-1)*3) BI).ownsRow B 149 3 (oA (bA ⟨g,0,aA⟩) (n-1) b) (n-1) (flat (l.eraseIdx i))):=by
  refine mS hB D (by omega) E (by rw[I,z,C]) (by rw[tE,Ad,Ma X,H]) fun j u o=>?_;have O:=(Pb.1 o).1;rw[tE,Ad,Ma X,H]at O;rw[eA.cell?_setCells_out g BI ((n-1)*3) x _ (fun _ _=>Ca (by show j<_;omega)),p];rw[wu]at o;have P:vA (flat (l.take i))=i*3:=by rw[tE,Hb];omega
  by_cases N:j<i*3
  .rw[eA.cell?_setCells_out g a (0+i*3) _ _ (fun _ _=>Ca (by show j<_;omega))];rw[Pe (by omega),xQ l i j (by omega) N]at o;exact t j u o
  rw[Uc (by omega),P,<-d]at o;have G:=eA.cell?_setCells_in g a (0+i*3) w.drew (fun k hk=>(s3.o k hk).1) (j-i*3) (by omega);rw[show 0+i*3+(j-i*3)=j by omega]at G;rw[G,<-o,Va]
 have hic:i<=b:=by omega
 have hp0:(0:Int)<=(i:Int)+1:=by omega
 have hp1:(i:Int)+1<=(n:Int):=by omega
 have hp2:((i:Int)+1).toNat=i+1:=by omega
 have hp3:¬((i:Int)=(i:Int)+1):=by omega
 have W:(b:Int)<=9223372036854775807:=by unfold maxLen at E;omega
 have e1:i+(n-(i+1))=n-1:=by omega
 have e2:n-(n-1)=1:=by omega
 have hW:xA _:=p;rw[H];clear p y r s q D t m d L f z I C;go_enter func297,ntmps297;go_wp2_with fail;go_region_law (refine step_append_room rfl (.tmp 22) (.tmp 25) 35 rfl 149 Z 3 underlying35 F R g 0 i b (by simp[Act.eval,Act.put]) A (n-(i+1)) (b-(i+1)) a (by simp[Act.eval,Act.put]) s1.o J.o s2.o (by omega) s3.o ?_;rw[<-hW.o])
 go_wp2;go_ret;exact⟨rfl,HO.o,HK.o⟩
def sO{x a:Int}{b:Bool}(h:wB x 0 a=b)(w:eA):dI 77 #[lA mA x,lA mA a] w (pA b):=h ▸ mF x a w
def wK{a:iC}{d:Nat}{c:List cB}{b:Bool}(h:(decide (vA c<=1000) &&zH c)=b)(w:eA)(g:eB w a c)(i:pL c)(f:vA c<=maxLen):
 qD 221 #[oA a (vA c) d] w (pA b):=h ▸ SD a d c w g i f
def fF(a:List cB)(c k b d:Int):Bool:=
 (decide (vA a<=1000) &&zH a) &&wB c 0 1000000000&&decide ((rC a:Int)<=c) &&wB k 0 1000000000000000&&wB b 0 1000000000000000&&wB d 0 1000000000000000
def XQ(w:eA)(a b c d e f:iA)(t:jA):let W:=w.alloc (tA #[a,b,c,d,e,f] t)
 W.cell? ⟨w.1.size,0,aA⟩=bA a/\W.cell? ⟨w.1.size,1,aA⟩=bA b/\W.cell? ⟨w.1.size,2,aA⟩=bA c/\
 W.cell? ⟨w.1.size,3,aA⟩=bA d/\W.cell? ⟨w.1.size,4,aA⟩=bA e/\W.cell? ⟨w.1.size,5,aA⟩=bA f:=by
 simp[go_sem]
def DH(a:iC)(m:Nat)(b:List cB)(c k j l:Int)(H:Bool)(w:eA)(L:eB w a b)(M:pL b)(y:vA b<=maxLen)(f:rC b<=1000000000):
 qD 182 #[.agg #[oA a (vA b) m,lA mA c,lA mA k,lA mA j,lA mA l,pA H]] w (pA (fF b c k j l)):=by
 obtain⟨N,O,P,Q,R,U⟩:=XQ w (oA a (vA b) m) (lA mA c) (lA mA k) (lA mA j) (lA mA l) (pA H) 37;have W:=tB.cells N;have X:=tB.cells O;have Y:=tB.cells P;have Z:=tB.cells Q;have d4:=tB.cells R;have u:kB w (w.alloc (tA #[oA a (vA b) m,lA mA c,lA mA k,lA mA j,lA mA l,pA H] 37)):=eD.alloc (Ia _) _;have T:=tB.there (w.alloc (tA #[oA a (vA b) m,lA mA c,lA mA k,lA mA j,lA mA l,pA H] 37));have d:xA (∀x:tB (w.alloc (tA #[oA a (vA b) m,lA mA c,lA mA k,lA mA j,lA mA l,pA H] 37)),eB x.w' a b):=fun x=>(L.z u).z x.h;have D:xA (∀x:tB (w.alloc (tA #[oA a (vA b) m,lA mA c,lA mA k,lA mA j,lA mA l,pA H] 37)),kB w x.w'):=fun x=>u.trans (x.h.mono u.size);have G:xA (pL b):=M;have n:xA _:=y;clear N O P Q R U u L M y;by_cases o:(decide (vA b<=1000) &&zH b)=cA
 .have E:xA (fF b c k j l=cA):=by show _=_;simp only[fF,o,Be]
  have z:xA _:=o;clear o;go_enter func182,ntmps182;go_wp2_with fail;refine jB (by kernel_rfl) (by kernel_rfl) ?_;repeat (go_big_quiet_step (first|(go_at_call 221;exact xB (wK z.o _ (d.o _) G.o n.o))|(go_at_call 222;exact xB (cK _ _ _ _ (d.o _) n.o f))|(go_at_call 77;apply yC;apply sO;first|exact i.o|exact A.o|exact B.o|exact F.o)))
  refine wpQuiet_nil ?_;rintro _ ⟨x,rfl⟩;go_wp2;go_ret;exact⟨fB E.o.symm,D.o x⟩
 have t:(decide (vA b<=1000) &&zH b)=dA:=by simpa using o
 have z:xA _:=t;clear o;by_cases p:wB c 0 1000000000=cA
 .have E:xA (fF b c k j l=cA):=by show _=_;simp only[fF,p,t,Be,Oc]
  have i:xA _:=p;clear p t;go_enter func182,ntmps182;go_wp2_with fail;refine jB (by kernel_rfl) (by kernel_rfl) ?_;repeat (go_big_quiet_step (first|(go_at_call 221;exact xB (wK z.o _ (d.o _) G.o n.o))|(go_at_call 222;exact xB (cK _ _ _ _ (d.o _) n.o f))|(go_at_call 77;apply yC;apply sO;first|exact i.o|exact A.o|exact B.o|exact F.o)))
  refine wpQuiet_nil ?_;rintro _ ⟨x,rfl⟩;go_wp2;go_ret;exact⟨fB E.o.symm,D.o x⟩
 have v:wB c 0 1000000000=dA:=by simpa using p
 have i:xA _:=v;clear p;by_cases q:decide ((rC b:Int)<=c)=cA
 .have E:xA (fF b c k j l=cA):=by show _=_;simp only[fF,q,t,v,Be,Oc]
  have S:=q;clear q t v;go_enter func182,ntmps182;go_wp2_with fail;refine jB (by kernel_rfl) (by kernel_rfl) ?_;repeat (go_big_quiet_step (first|(go_at_call 221;exact xB (wK z.o _ (d.o _) G.o n.o))|(go_at_call 222;exact xB (cK _ _ _ _ (d.o _) n.o f))|(go_at_call 77;apply yC;apply sO;first|exact i.o|exact A.o|exact B.o|exact F.o)))
  refine wpQuiet_nil ?_;rintro _ ⟨x,rfl⟩;go_wp2;go_ret;exact⟨fB E.o.symm,D.o x⟩
 have C:decide ((rC b:Int)<=c)=dA:=by simpa using q
 have hC:(rC b:Int)<=c:=by simpa using C
 clear q;by_cases r:wB k 0 1000000000000000=cA
 .have E:xA (fF b c k j l=cA):=by show _=_;simp only[fF,r,t,v,C,Be,Oc]
  have A:xA _:=r;clear r t v C;go_enter func182,ntmps182;go_wp2_with fail;refine jB (by kernel_rfl) (by kernel_rfl) ?_;repeat (go_big_quiet_step (first|(go_at_call 221;exact xB (wK z.o _ (d.o _) G.o n.o))|(go_at_call 222;exact xB (cK _ _ _ _ (d.o _) n.o f))|(go_at_call 77;apply yC;apply sO;first|exact i.o|exact A.o|exact B.o|exact F.o)))
  refine wpQuiet_nil ?_;rintro _ ⟨x,rfl⟩;go_wp2;go_ret;exact⟨fB E.o.symm,D.o x⟩
 have I:wB k 0 1000000000000000=dA:=by simpa using r
 have A:xA _:=I;clear r;by_cases s:wB j 0 1000000000000000=cA
 .have E:xA (fF b c k j l=cA):=by show _=_;simp only[fF,s,t,v,C,I,Be,Oc]
  have B:xA _:=s;clear s t v C I;go_enter func182,ntmps182;go_wp2_with fail;refine jB (by kernel_rfl) (by kernel_rfl) ?_;repeat (go_big_quiet_step (first|(go_at_call 221;exact xB (wK z.o _ (d.o _) G.o n.o))|(go_at_call 222;exact xB (cK _ _ _ _ (d.o _) n.o f))|(go_at_call 77;apply yC;apply sO;first|exact i.o|exact A.o|exact B.o|exact F.o)))
  refine wpQuiet_nil ?_;rintro _ ⟨x,rfl⟩;go_wp2;go_ret;exact⟨fB E.o.symm,D.o x⟩
 have K:wB j 0 1000000000000000=dA:=by simpa using s
 have B:xA _:=K;clear s;have E:xA (fF b c k j l=wB l 0 1000000000000000):=by show _=_;simp only[fF,t,v,C,I,K,Oc]
 clear t v C I K;obtain⟨g,J⟩:∃g,wB l 0 1000000000000000=g:=⟨_,rfl⟩
 rw[J]at E;have F:xA _:=J;clear J;go_enter func182,ntmps182;go_wp2_with fail;refine jB (by kernel_rfl) (by kernel_rfl) ?_;repeat (go_big_quiet_step (first|(go_at_call 221;exact xB (wK z.o _ (d.o _) G.o n.o))|(go_at_call 222;exact xB (cK _ _ _ _ (d.o _) n.o f))|(go_at_call 77;apply yC;apply sO;first|exact i.o|exact A.o|exact B.o|exact F.o)))
 refine wpQuiet_nil ?_;rintro _ ⟨x,rfl⟩;go_wp2;go_ret;exact⟨fB E.o.symm,D.o x⟩
def gu{w:eA}{B g a:Nat}{b:Array iA}{e:jA}{fs:List cB}(c:B<=g)(h:iB w g b e)(f:vA fs<=a)(d:a<=maxLen)(k:b.size=a*3)(i:∀j(m:j<vA fs),xF b 0 j fs[j]):
 w.ownsRow B e 3 (oA (bA ⟨g,0,aA⟩) (vA fs) a) (vA fs) (flat fs):=
 mS c h f d k (tE fs) fun j u l=>by
  have:=zO (sR h i) j u l;rwa [Addr.add_lit,Ya]at this
def fK{w:eA}{B g b:Nat}{e:jA}{c:List cB}(h:w.ownsRow B e 3 (oA (bA ⟨g,0,aA⟩) (vA c) b) (vA c) (flat c)):
 ∃a,B<=g/\iB w g a e/\vA c<=b/\b<=maxLen/\a.size=b*3/\∀j(m:j<vA c),xF a 0 j c[j]:=by
 obtain⟨a,q,_,l,s,r,t,d⟩:=gS h;refine⟨a,q,l,s,r,t,fun j m=>?_⟩;obtain⟨n,o,p⟩:=IE c j m;have f:=d _ _ n;have i:=d _ _ o;have k:=d _ _ p;rw[l.cell]at f i k;exact⟨by rw[Ya];exact f,by rw[Ya];exact i,by rw[Ya];exact k⟩
def uC.slice{w:eA}{B D:Nat}{b:List cB}{c k d i:Int}{f:Bool}{v:iA}(h:uC w B D b c k d i f v)(m:0<vA b):∃g a,v=oA (bA ⟨g,0,aA⟩) (vA b) a/\g≠D/\B<=g:=by
 rcases h.row.2 with⟨_,l⟩|⟨g,a,e,rfl,j,_⟩;omega;exact ⟨g,a,rfl,h.apart g rfl,j⟩
def uC.size{w:eA}{B D:Nat}{e:List cB}{c k a d:Int}{b:Bool}{v:iA}(h:uC w B D e c k a d b v):B<=w.1.size:=by
 have:=zA h.blk;have:=h.from';omega
def uC.cell4{w:eA}{B D:Nat}{e:List cB}{c k a d:Int}{b:Bool}{v:iA}(h:uC w B D e c k a d b v):w.cell? ⟨D,4,aA⟩=bA v:=by
 have:=h.blk.cell 4;simpa using this
def uC.cell5{w:eA}{B D:Nat}{e:List cB}{c k a d:Int}{b:Bool}{v:iA}(h:uC w B D e c k a d b v):w.cell? ⟨D,5,aA⟩=bA (lA mA c):=by
 have:=h.blk.cell 5;simpa using this
def uC.files{w:eA}{B D:Nat}{d:List cB}{c k e g:Int}{f:Bool}{v:iA}(h:uC w B D d c k e g f v):∃a b,v=oA a (vA d) b/\eB w a d:=by
 obtain⟨a,b,rfl,i⟩:=cH h.row;exact⟨a,b,rfl,i.files⟩
def uC.put{w p:eA}{B D g d i:Nat}{b:List cB}{f:cB}{c k q s:Int}{r:Bool}{a:Array iA}(h:uC w B D b c k q s r (oA (bA ⟨g,0,aA⟩) (vA b) d))(l:tD g w p)
(x:iB p g a 149)(A:a.size=d*3)(z:∀m(t:m<vA b),xF a 0 m (if m=i then f else b[m])):uC p B D (b.set i f) c k q s r (oA (bA ⟨g,0,aA⟩) (vA b) d):=by
 obtain⟨u,v,_,y,t,_,_⟩:=fK h.row;refine⟨h.from',iB.keeps h.blk (gE.but l) (fun e=>h.apart g rfl e.symm),?_,h.apart⟩;have e:vA (b.set i f)=vA b:=Pd ..;have:=gu (fs:=b.set i f) v x (by rw[e];exact y) t A (fun j C=>by
  have o:=z j (by omega);rw[List.getElem_set];by_cases n:j=i
  .subst n;simpa using o
  rw[Ja n]at o;rw[Ja (Ne.symm n)];exact o)
 rw[e]at this;rw[e];exact this
def aHv(b o:Nat)(c:Array iA)(t:jA)(d x:gB)(w:eA)(f:iB w b c t)(g:c[o+1]?=bA (nA d))(j:d.size+x.size<=4000000000):
 gA prog 296 #[qA (bA ⟨b,o,aA⟩),nA x] w fun e i=>e=sA (uA #[])/\i=w.setCell ⟨b,o+1,aA⟩ (nA (d++x)):=by
 have h:=f.cell (o+1);rw[g]at h;have a:=f.free (o+1);clear f g;go_enter func296,ntmps296;go_wp2;go_end0;exact⟨rfl,rfl⟩
def aLz{b:Array iA}{a:List cB}{i:Nat}(l:i<vA a)(h:∀m(c:m<vA a),xF b 0 m a[m])(x:gB)(s:Int):
 ∀m(c:m<vA a),xF ((b.setIfInBounds (i*3+1) (nA x)).setIfInBounds (i*3+2) (lA mA s)) 0 m (if m=i then⟨a[i].N,x,s⟩ else a[m]):=by
 intro m c;by_cases e:m=i
 .subst e;rw[Ma rfl];obtain⟨g,j,k⟩:=h m c;have d:=(Vb.1 j).1;have f:=(Vb.1 k).1;rw[Ya]at d f;refine⟨?_,?_,?_⟩
  .rw[Ea (by omega),Ea (by omega)];exact g
  .rw[Ya,Ea (by omega)];simp[d]
  rw[Ya];simp[f]
 rw[Ja e];exact((h m c).set (by omega) _).set (by omega) _
def aHf{b:Array iA}{a:List cB}{i:Nat}(d:i<vA a)(h:∀m(c:m<vA a),xF b 0 m a[m])(x:gB):
 ∀m(c:m<vA a),xF (b.setIfInBounds (i*3+1) (nA x)) 0 m (if m=i then⟨a[i].N,x,a[i].Y⟩ else a[m]):=by grind [xF]
def aHg{b:Array iA}{a:List cB}{i:Nat}(d:i<vA a)(h:∀m(c:m<vA a),xF b 0 m a[m])(s:Int):
 ∀m(c:m<vA a),xF (b.setIfInBounds (i*3+2) (lA mA s)) 0 m (if m=i then⟨a[i].N,a[i].data,s⟩ else a[m]):=by grind [xF]
def jn(b o:Nat)(a:Array iA)(t:jA)(d:gB)(s:Int)(w:eA)(f:iB w b a t)(c:a[o+1]?=bA (nA d))(g:wB s 0 d.size=cA):
 qD 262 #[qA (bA ⟨b,o,aA⟩),lA mA s] w (gH 6):=by
 have j:=f.cell (o+1);rw[c]at j;have i:xA _:=g;clear f c g;go_enter func262,ntmps262;go_wp2_with fail;apply aC (sO i.o _);rintro h rfl;go_wp2;go_ret;exact⟨rfl,eD⟩
def uk(b o:Nat)(c:Array iA)(t:jA)(d:gB)(s:Int)(w:eA)(j:iB w b c t)(k:c[o+1]?=bA (nA d))(p:o+2<c.size)(l:wB s 0 d.size=dA)(B:d.size<=1000000000):
 gA prog 262 #[qA (bA ⟨b,o,aA⟩),lA mA s] w fun e i=>e=sA (gH 0)/\tD b w i/\
  iB i b ((c.setIfInBounds (o+1) (nA (d.extract 0 s.toNat))).setIfInBounds (o+2) (lA mA s)) t:=by
 have z:=j.cell (o+1);rw[k]at z;have a:=j.free (o+1);have y:xA _:=l;have g:0<=s/\s<=d.size:=by simpa[wB]using l
 obtain⟨g,A⟩:=g;have n:xA (iB w b c t):=j;have r:xA _:=(Vb.1 k).1;have u:xA _:=p;clear j k l p;go_enter func262,ntmps262;go_wp2_with fail;apply aC (sO y.o _);rintro i rfl;go_wp2_with fail;refine aC (tr b o _ t (d.extract 0 s.toNat) _ (n.o.set (o+1) (nA (d.extract 0 s.toNat))) (by have:=r.o;simp[Eb];omega) (by have:=u.o;simp;omega)) ?_;intro m f;have v:xA (tD b i m):=by show tD b i m;rw[f];exact((tD.refl _ _).setCell _ _).setCell _ _
 have q:xA (((d.extract 0 s.toNat).size:Int)=s):=by show _=_;rw[Je];omega
 have x:xA (iB m b ((c.setIfInBounds (o+1) (nA (d.extract 0 s.toNat))).setIfInBounds (o+2) (lA mA s)) t):=by
  have h:=(n.o.set (o+1) (nA (d.extract 0 s.toNat))).set (o+2) (lA mA ((d.extract 0 s.toNat).size:Nat));show iB _ _ _ _;rw[f];rw[q.o]at h |-
  exact h
 clear f;go_wp2;go_ret;exact⟨rfl,v.o,x.o⟩
def mL(w c:eA):Prop:=∀(b:Nat)(o:Obj),w.heap[b]?=bA o->(∀a t,o=tA a t (0,0)->t≠149/\t≠293)->c.heap[b]?=bA o
def UH{w:eA}{b:Nat}{o:Obj}(h:w.heap[b]?=bA o):b<w.1.size:=(Vb.1 h).1
def mL.blk{w c:eA}(k:mL w c){b:Nat}{a:Array iA}{t:jA}(h:iB w b a t)(d:t≠149)(f:t≠293):iB c b a t:=k b _ h fun _ _ e=>by cases e;exact⟨d,f⟩
def mL.trans{a b c:eA}(h:mL a b)(k:mL b c):mL a c:=fun x o e d=>k x o (h x o e d) d
def mL.of{w c:eA}(h:kB w c):mL w c:=fun b _ a _=>(h.block b (UH a)).trans a
def mL.keeps{S:Nat->Prop}{w e:eA}(h:gE S w e)(f:∀k,S k->∃b t,iB w k b t/\(t=149\/t=293)):mL w e:=fun x o c i=>(h.block x (UH c) fun j=>by
 obtain⟨d,n,g,a⟩:=f x j;obtain⟨l,m⟩:=i _ _ (Lc (c.symm.trans g));rcases a with a|a;exact l a;exact m a).trans c
def mL.set{w:eA}{g o:Nat}{a:Array iA}{t:jA}(b:iB w g a t)(c:t=149\/t=293)(v:iA):mL w (w.setCell ⟨g,o,aA⟩ v):=
 mL.keeps (S:=fun k=>k=g) ((gE.refl (fun k=>k=g) w).setCell (g:=g) rfl o v) (fun k e=>⟨a,t,by rw[e];exact b,c⟩)
def UN{w:eA}{B:Nat}{v:iA}{n:Nat}{e:List iA}(h:w.ownsRow B 149 3 v n e):∀g,v.ownBlock=bA g->∃a,iB w g a 149:=by
 intro g b;rcases h.2 with⟨rfl,_⟩|⟨f,c,a,rfl,_,d,_⟩;simp[iA.ownBlock]at b;simp[iA.ownBlock]at b;subst b;exact⟨a,d⟩
structure bK(B:Nat)(w w':World):Prop where
 below:Below B w w'
 other:mL w w'
def bK.trans{B:Nat}{a b c:eA}(h:bK B a b)(k:bK B b c):bK B a c:=⟨h.below.trans k.below,h.other.trans k.other⟩
def bK.of{B:Nat}{w a:eA}(h:kB w a)(b:B<=w.1.size):bK B w a:=⟨h.mono b,mL.of h⟩
def bK.on{B:Nat}{a w b:eA}(h:bK B a w)(k:kB w b)(c:B<=w.1.size):bK B a b:=h.trans (bK.of k c)
def bK.set{B g o:Nat}{a w:eA}{b:Array iA}{t:jA}(h:bK B a w)(c:iB w g b t)(e:t=149\/t=293)(d:B<=g)(v:iA):bK B a (w.setCell ⟨g,o,aA⟩ v):=
 ⟨h.below.setCell (by show B<=g;exact d) _,h.other.trans (mL.set c e v)⟩
def bK.but{B g:Nat}{a w c:eA}{b:Array iA}{t:jA}(h:bK B a w)(k:tD g w c)(f:iB w g b t)(l:t=149\/t=293)(i:B<=g)(d:B<=w.1.size):bK B a c:=
 ⟨h.below.trans (k.below i d),h.other.trans (mL.keeps (gE.but k) (fun j e=>⟨b,t,by rw[e];exact f,l⟩))⟩
def bK.charge{B D:Nat}{g:List cB}{c k d f:Int}{e:Bool}{v:iA}{w b:eA}{o:Obj}(h:uC w B D g c k d f e v)(i:B<=w.1.size)(a:tD D (w.alloc o) b):bK B w b:=
 (bK.of (yG w o) i).but a (h.z (yG w o)).blk (La rfl) h.from' (by simp;omega)
def uC.turn{w i:eA}{B D:Nat}{j a:List cB}{c k d f:Int}{e:Bool}{v b:iA}(h:uC w B D j c k d f e v)(m:iB i D #[lA mA k,lA mA d,lA mA f,pA e,b,lA mA c] 293)
(n:i.ownsRow B 149 3 b (vA a) (flat a))(l:∀g,b.ownBlock=bA g->g≠D):uC i B D a c k d f e b:=⟨h.from',m,n,l⟩
def DO{w:eA}{B:Nat}{e:jA}{size:Nat}{v:iA}{n:Nat}{i:List iA}(h:w.ownsRow B e size v n i){D:Nat}(l:∀g,v.ownBlock=bA g->g≠D)(o:Nat)(u:iA):(w.setCell ⟨D,o,aA⟩ u).ownsRow B e size v n i:=by
 obtain⟨j,c⟩:=h;refine⟨j,?_⟩;rcases c with c|⟨g,a,b,f,k,m,r⟩;exact Ca c;have d:=l g (by rw[f];rfl);exact La ⟨g,a,b,f,k,(Below.heap_setCell w ⟨D,o,aA⟩ u g d).trans m,r⟩
def UQ(B D i:Nat)(b:List cB)(c k n p:Int)(o:Bool)(v:iA)(w:eA)(h:uC w B D b c k n p o v)(x:i<vA b)(l:vA b<=1048576):
 gA prog 264 #[qA (bA ⟨D,0,aA⟩),lA mA i] w fun e z=>
  e=sA (uA #[])/\∃y,uC z B D (b.eraseIdx i) c k n p o y/\y.ownBlock=v.ownBlock/\gE (fun k=>k=D\/v.ownBlock=bA k) w z:=by
 obtain⟨g,f,rfl,q,H⟩:=h.slice (by omega);have J:=h.cell4;have m:xA _:=h;have I:IntKind.i64.wrap ((i:Int)+1)=(i:Int)+1:=by rw[IntKind.wrap_i64];omega
 clear h;go_enter func264,ntmps264;go_wp2_with fail;apply aC (vw B g f i b _ m.o.row x l);rintro u ⟨j,r⟩;have d:=m.o.blk.keeps r (fun e=>q e.symm);have F:=d.cell 4;have a:=d.free 4;simp only[Xb,Ob,Ga]at F;have E:xA (u.ownsRow B 149 3 (oA (bA ⟨g,0,aA⟩) (vA b-1) f) (vA b-1) (flat (b.eraseIdx i))):=j;have C:xA _:=r;have A:xA (iB u D #[lA mA k,lA mA n,lA mA p,pA o,oA (bA ⟨g,0,aA⟩) (vA b) f,lA mA c] 293):=d;clear j r d;go_wp2;go_end0;refine⟨rfl,oA (bA ⟨g,0,aA⟩) (vA b-1) f,m.o.turn ?_ ?_ (fun G e=>by simp[iA.ownBlock]at e;omega),rfl,?_⟩
 .have:=A.o.set 4 (oA (bA ⟨g,0,aA⟩) (vA b-1) f);simpa using this
 .have e:vA (b.eraseIdx i)=vA b-1:=by rw[Ad,Ma x]
  rw[e];exact DO E.o (fun G e=>by simp[iA.ownBlock]at e;omega) _ _
 have s:gE (fun t=>t=D\/(iA.slice (bA ⟨g,0,aA⟩) (vA b) f).ownBlock=bA t) w u:=C.o.mono (fun t e=>La (by subst e;rfl));exact s.setCell (Ca rfl) _ _
def bs(B D i:Nat)(a:List cB)(c k o q:Int)(p:Bool)(v:iA)(x:gB)(w:eA)(h:uC w B D a c k o q p v)(I:i<vA a)(M:vA a<=1048576)(N:(rC a:Int)<=c)(hc:c<=1000000000):
 gA prog 260 #[qA (bA ⟨D,0,aA⟩),lA mA i,nA x] w fun e u=>
  ((c<rC a+x.size/\e=sA (gH 3)/\uC u B D a c k o q p v)\/(rC a+x.size<=c/\e=sA (gH 0)/\uC u B D (a.set i ⟨a[i].N,a[i].data++x,a[i].Y⟩) c k o q p v))/\bK B w u:=by
 obtain⟨g,n,rfl,V,S⟩:=h.slice (by omega);obtain⟨Z,J,F,l⟩:=h.files;have K:=tB.cells h.cell4;have L:=tB.cells h.cell5;have s:=tB.there w;have A:xA _:=h;have P:xA (eB w (bA ⟨g,0,aA⟩) a):=by
  simp only[iA.slice.injEq]at F;obtain⟨rfl,_⟩:=F;exact l
 have Y:IntKind.i64.wrap (c-(rC a:Int))=c-(rC a:Int):=by rw[IntKind.wrap_i64];omega
 have j:xA (∀x:tB w,eB x.w' (bA ⟨g,0,aA⟩) a):=fun x=>P.o.z x.h;have f:xA (∀x:tB w,uC x.w' B D a c k o q p (oA (bA ⟨g,0,aA⟩) (vA a) n)):=fun x=>A.o.z x.h;have r:vA a<=maxLen:=by simp[maxLen];omega
 have t:rC a<=1000000000:=by omega
 clear h F l;by_cases hf:c-(rC a:Int)<(x.size:Int)
 .go_enter func260,ntmps260;go_wp2_with fail;refine jB (by kernel_rfl) (by kernel_rfl) ?_;repeat (go_big_quiet_step (first|(go_at_call 222;exact xB (cK _ _ _ _ (j.o _) r t))))
  refine wpQuiet_nil ?_;rintro _ ⟨y,rfl⟩;have C:xA _:=y.h;have z:xA _:=f.o y;have G:=A.o.size;clear K L s f j;generalize y.w'=W at *;clear y;go_wp2;go_ret;exact⟨Ca ⟨by omega,rfl,z.o⟩,bK.of C.o G⟩
 go_enter func260,ntmps260;go_wp2_with fail;refine jB (by kernel_rfl) (by kernel_rfl) ?_;repeat (go_big_quiet_step (first|(go_at_call 222;exact xB (cK _ _ _ _ (j.o _) r t))))
 refine wpQuiet_nil ?_;rintro _ ⟨y,rfl⟩;have C:xA _:=y.h;have z:xA _:=f.o y;have G:=A.o.size;have e4:=(f.o y).cell4;clear K L s f j;generalize y.w'=W at *;clear y;obtain⟨E,_,d,X,T,H,b⟩:=fK z.o.row;have m:=(b i I).2.1;rw[Ya]at m;have U:a[i].data.size<=rC a:=by
  have h1:=gI a i I;have h2:=oH a (i+1);omega
 have R:xA (gA prog 296 #[qA (bA ⟨g,i*3,aA⟩),nA x] W fun e u=>e=sA (uA #[])/\u=W.setCell ⟨g,i*3+1,aA⟩ (nA (a[i].data++x))):=aHv g (i*3) E 149 a[i].data x W d m (by omega);have Q:xA (uC (W.setCell ⟨g,i*3+1,aA⟩ (nA (a[i].data++x))) B D (a.set i ⟨a[i].N,a[i].data++x,a[i].Y⟩) c k o q p (oA (bA ⟨g,0,aA⟩) (vA a) n)):=
  z.o.put ((tD.refl _ _).setCell _ _) (d.set _ _) (by simp[H]) (aHf I b _)
 have O:xA (bK B w (W.setCell ⟨g,i*3+1,aA⟩ (nA (a[i].data++x)))):=(bK.of C.o G).set d (Ca rfl) (by omega) _;clear d b m;go_wp2_with fail;apply aC R.o;rintro w3 rfl;go_wp2;go_ret;exact⟨La ⟨by omega,rfl,Q.o⟩,O.o⟩
def bK.removed{w d:eA}{B D:Nat}{l:List cB}{c k f j:Int}{i:Bool}{v:iA}(h:uC w B D l c k f j i v)(b:gE (fun k=>k=D\/v.ownBlock=bA k) w d):bK B w d:=
 ⟨b.below (fun g e=>by
  rcases e with e|e
  .rw[e];exact h.from'
  .exact qI h.row g e) h.size,mL.keeps b (fun g e=>by
  rcases e with e|e;rw[e];exact⟨_,_,h.blk,La rfl⟩;obtain ⟨a,m⟩:=UN h.row g e;exact⟨a,_,m,Ca rfl⟩)⟩
def uC.inserted{w l:eA}{B D i:Nat}{d:List cB}{f:cB}{c k p r:Int}{q:Bool}{v a:iA}(h:uC w B D d c k p r q v)(x:i<=vA d)
(y:l.ownsRow B 149 3 a (vA d+1) (flat (bN d i f)))(o:gE (fun k=>v.ownBlock=bA k) w l)(n:a.ownBlock=v.ownBlock\/a.ownBlock=bA w.1.size):
 uC (l.setCell ⟨D,4,aA⟩ a) B D (bN d i f) c k p r q a/\bK B w (l.setCell ⟨D,4,aA⟩ a):=by
 have z:=zA h.blk;have j:∀g,a.ownBlock=bA g->g≠D:=fun g b=>by
  rcases n with e|e;exact h.apart g (by rw[<-e];exact b);rw[e]at b;simp at b;omega
 have s:=h.blk.keeps o (fun e=>h.apart D e rfl);refine⟨⟨h.from',?_,?_,j⟩,?_⟩;have:=s.set 4 a;simpa using this;rw[gR d i f x];exact DO y j _ _;have t:bK B w l:=⟨o.below (fun g b=>qI h.row g b) h.size,mL.keeps o (fun g b=>by
  obtain⟨m,u⟩:=UN h.row g b;exact⟨m,_,u,Ca rfl⟩)⟩
 exact t.set s (La rfl) h.from' _
def vu(B D:Nat)(d:List cB)(c k A E:Int)(C:Bool)(v:iA)(m:gB)(w:eA)(h:uC w B D d c k A E C v)(n:nV d)(r:vA d<=1048576):
 gA prog 259 #[qA (bA ⟨D,0,aA⟩),nA m] w fun e G=>∃i F,rU d m i/\bK B w G/\
  ((kI d m i=dA/\e=sA (gH 5)/\uC G B D d c k A E C F)\/(kI d m i=cA/\1000<=vA d/\e=sA (gH 3)/\uC G B D d c k A E C F)\/
    (kI d m i=cA/\vA d<1000/\e=sA (gH 0)/\uC G B D (bN d i ⟨m,kA,0⟩) c k A E C F)):=by
 obtain⟨a,u,rfl,p⟩:=h.files;have R:=h.cell4;have K:xA _:=h;have O:xA (eB w a d):=p;have N:xA (nV d):=n;clear h p n;go_enter func259,ntmps259;go_wp2_with fail;refine(uX a u d m _ O.o N.o r).mono ?_;rintro e M ⟨i,J,rfl,t⟩;have H:xA (rU d m i):=J;have q:=J.1;have f:xA _:=K.o.z t;have s:xA _:=bK.of t K.o.size;have S:=f.o.cell4;clear R t J;cases hq:kI d m i with
 |true=>
  have z:xA _:=hq;clear hq;go_wp2;go_ret;exact⟨i,_,H.o,s.o,Ca ⟨z.o,rfl,f.o⟩⟩
 |false=>
  have z:xA _:=hq;clear hq;by_cases V:(1000:Int)<=(vA d:Int)
  .go_wp2;go_ret;exact⟨i,_,H.o,s.o,La (Ca ⟨z.o,by omega,rfl,f.o⟩)⟩
  go_wp2_with fail;have g:=f.o.z (yG M (tA #[nA m,nA kA,lA mA 0] 149));refine(SZ B M.1.size i (oA a (vA d) u) d ⟨m,kA,0⟩ _ g.row (heap_alloc_new _ _) (fun e=>by have:=nG f.o.row _ e;omega) q r g.size).mono ?_;rintro e W ⟨F,rfl,l,I,x⟩;obtain⟨y,o⟩:=g.inserted q l I x;have j:=g.blk.keeps I (fun e=>g.apart D e rfl);obtain⟨U,L,rfl⟩:=AZ l;have T:=j.cell 4;have b:=j.free 4;simp only[Xb,Ob,Ga]at T;have P:xA _:=y;have Q:xA _:=(s.o.on vB f.o.size).trans o;clear y o j l I x g S;go_wp2;go_ret;exact⟨i,_,H.o,Q.o,La (La ⟨z.o,by omega,rfl,P.o⟩)⟩
def aHh{a:Array iA}{b:List cB}{i:Nat}(d:i<vA b)(h:∀m(c:m<vA b),xF a 0 m b[m])(f:cB):
 ∀m(c:m<vA b),xF (((a.setIfInBounds (i*3) (nA f.N)).setIfInBounds (i*3+1) (nA f.data)).setIfInBounds (i*3+2) (lA mA f.Y)) 0 m (if m=i then f else b[m]):=by grind [xF]
def zn(B D i:Nat)(b:List cB)(c k H J:Int)(I:Bool)(v:iA)(m:gB)(w:eA)(h:uC w B D b c k H J I v)(hi:i<vA b)(y:nV (b.eraseIdx i))(V:vA b<=1048576):
 gA prog 263 #[qA (bA ⟨D,0,aA⟩),lA mA i,nA m] w fun e w'=>e=sA (uA #[])/\∃j v',rU (b.eraseIdx i) m j/\bK B w w'/\
  ((kI (b.eraseIdx i) m j=dA/\uC w' B D ((b.eraseIdx i).set j ⟨m,b[i].data,b[i].Y⟩) c k H J I v')\/(kI (b.eraseIdx i) m j=cA/\uC w' B D (bN (b.eraseIdx i) j ⟨m,b[i].data,b[i].Y⟩) c k H J I v')):=by
 obtain⟨g,cap,rfl,hgD,hBg⟩:=h.slice (by omega);obtain⟨cur,_,a,hnc,hcm,hcs,f⟩:=fK h.row;obtain⟨r0,r1,r2⟩:=f i hi;rw[Ya]at r0 r1 r2;have c0:=a.cell (i*3);have c1:=a.cell (i*3+1);have c2:=a.cell (i*3+2);rw[r0]at c0;rw[r1]at c1;rw[r2]at c2;have d4:=h.cell4;have Z:xA _:=h;have HA:xA (nV (b.eraseIdx i)):=y;have hgl:=zA a;have hDl:=zA h.blk;clear h y a f r0 r1 r2;go_enter func263,ntmps263;go_wp2_with fail;apply aC (UQ B D i b c k H J I _ _ (Z.o.z (yG w (tA #[nA m,nA b[i].data,lA mA b[i].Y] 149))) hi V);rintro w1 ⟨v1,p,W,hk⟩;have N:xA (iB w1 w.1.size #[nA m,nA b[i].data,lA mA b[i].Y] 149):=iB.keeps (heap_alloc_new _ _) hk (fun e=>by
  rcases e with e|e;omega;simp[iA.ownBlock]at e;omega)
 have L:xA _:=(bK.of vB Z.o.size).trans (bK.removed (Z.o.z vB) hk);have U:vA (b.eraseIdx i)<=1048576:=by rw[Ad,Ma hi];omega
 have X:v1.ownBlock=bA g:=W;obtain⟨G,l,rfl,z⟩:=p.files;have P:xA _:=X;have E:xA _:=p;have O:xA (eB w1 G (b.eraseIdx i)):=z;have e4:=p.cell4;clear c0 c1 c2 d4 p hk z W X;generalize T:b.eraseIdx i=o at *;go_wp2_with fail;refine(uX G l o m _ O.o HA.o U).mono ?_;rintro e K ⟨j,hp,rfl,t⟩;have HP:xA (rU o m j):=hp;have A:=hp.1;have d:xA _:=E.o.z t;have M:xA _:=L.o.on t E.o.size;have r:xA (iB K w.1.size #[nA m,nA b[i].data,lA mA b[i].Y] 149):=N.o.z t;have g4:=d.o.cell4;have x0:=r.o.cell 0;have x1:=r.o.cell 1;have x2:=r.o.cell 2;simp only[Xb,Ob,Ga]at x0 x1 x2;clear e4 t hp O E L N;cases hq:kI o m j with
 |true=>
  have HQ:xA _:=hq;have hjl:j<vA o:=by
   rcases Gc j (vA o) with h|h;exact h;rw[kI,Fd h]at hq;exact absurd hq (by simp)
  obtain⟨s,cap',ev,_,_⟩:=d.o.slice (by omega);obtain rfl:s=g:=by have:=P.o;rw[ev]at this;simpa[iA.ownBlock]using this
  simp only[iA.slice.injEq]at ev;obtain⟨rfl,_,rfl⟩:=ev;obtain⟨Q,_,a,hnc2,hcm2,S,f⟩:=fK d.o.row;have hsz2:j*3+2<Q.size:=by omega
  obtain⟨y0,z0⟩:=a.there (j:=j*3) (by omega);obtain⟨y1,z1⟩:=a.there (j:=j*3+1) (by omega);obtain⟨y2,z2⟩:=a.there (j:=j*3+2) (by omega);have k0:=a.free (j*3);have k1:=a.free (j*3+1);have k2:=a.free (j*3+2);have n:tD s K (((K.setCell ⟨s,j*3,aA⟩ (nA m)).setCell ⟨s,j*3+1,aA⟩ (nA b[i].data)).setCell ⟨s,j*3+2,aA⟩ (lA mA b[i].Y)):=(((tD.refl _ _).setCell _ _).setCell _ _).setCell _ _;have u:xA (uC (((K.setCell ⟨s,j*3,aA⟩ (nA m)).setCell ⟨s,j*3+1,aA⟩ (nA b[i].data)).setCell ⟨s,j*3+2,aA⟩ (lA mA b[i].Y)) B D (o.set j ⟨m,b[i].data,b[i].Y⟩) c k H J I (oA (bA ⟨s,0,aA⟩) (vA o) l)):=
   d.o.put n (((a.set (j*3) (nA m)).set (j*3+1) (nA b[i].data)).set (j*3+2) (lA mA b[i].Y)) (by simp[S]) (aHh hjl f ⟨m,b[i].data,b[i].Y⟩)
  have Y:xA _:=M.o.but n a (Ca rfl) hBg d.o.size;clear hq a f n;go_wp2_with fail;go_region
  go_wp2;refine bodyPost_ret (results_none rfl _ _ _) rfl ?_;subst T;exact⟨rfl,j,_,HP.o,Y.o.on eD.drew u.o.size,Ca ⟨HQ.o,u.o.z eD.drew⟩⟩
 |false=>
  have HQ:xA _:=hq;have x:(iA.slice G (vA o) l).ownBlock≠bA D:=fun e=>d.o.apart D e rfl;have hap3:(iA.slice G (vA o) l).ownBlock≠bA w.1.size:=fun e=>by rw[P.o]at e;simp at e;omega
  have q:xA (uC (K.drew.alloc (tA #[nA m,nA b[i].data,lA mA b[i].Y] 149)) B D o c k H J I (oA G (vA o) l)):=(d.o.z eD.drew).z vB;clear hq;go_wp2_with fail;have hDl2:=zA d.o.blk;have hFl2:=zA r.o;go_region_with (go_at_call 295;refine(SZ B K.1.size j (oA G (vA o) l) o ⟨m,b[i].data,b[i].Y⟩ _ q.o.row (heap_alloc_new _ _) (fun e=>by have:=nG d.o.row _ e;omega) A U q.o.size).mono ?_;rintro e w7 ⟨v',rfl,C,F,hat⟩;obtain⟨a7,cap7,rfl⟩:=AZ C;have q4:=(q.o.blk.keeps F x).cell 4;have q5:=(q.o.blk.keeps F x).free 4;simp only[Xb,Ob,Ga]at q4)
  all_goals(
   go_wp2
   go_end0
   subst T;obtain⟨p,R⟩:=q.o.inserted A C F hat;exact⟨rfl,j,_,HP.o,((M.o.on eD.drew d.o.size).on vB d.o.size).trans R,La ⟨HQ.o,p⟩⟩)
def VJ:gB:=⟨#[97,32,115,101,103,109,101,110,116,32,97,104,101,97,100,32,111,102,32,116,104,101,32,108,97,115,116,32,105,115,32,116,111,114,110]⟩
def aTe:gB:=⟨#[116,104,101,32,115,101,103,109,101,110,116,115,32,97,114,101,32,110,111,32,108,111,103]⟩
def jd:gB:=⟨#[116,104,101,32,112,97,121,108,111,97,100,32,104,97,115,32,110,111,32,102,114,97,109,101]⟩
def aTd:gB:=⟨#[116,104,101,32,108,111,103,32,104,97,115,32,110,111,32,115,101,103,109,101,110,116,115,32,108,101,102,116]⟩
def aOb(a:Nat):iA:=match a with
 |20=>.iface 200 (nA VJ)
 |21=>.iface 200 (nA aTe)
 |22=>.iface 200 (nA jd)
 |23=>.iface 200 (nA aTd)
 |c=>gH c
def JI{P:Program}(w:eA){t a:jA}{e:Array (String×jA)}(b:gB)(c:P.underlying t=bA (.interface e)):
 (binOp .eql t .nilIface (.iface a (nA b))).run P w=.ok (pA cA) w:=by
 have h:∀d:Nat,(Op.equalIn (d+2) t .nilIface (.iface a (nA b))).run P w=.ok cA w:=fun d=>by
  simp[Op.equalIn,run_underlying c]
 simp only[binOp];simp[Op.equal,Op.maxDepth,h 9998]
def aRr(b:gB)(w:eA):
 dI 226 #[.nilIface,.iface 200 (nA b)] w (pA cA):=by
 have a:(binOp .eql 249 .nilIface (.iface 200 (nA b))).run prog w=.ok (pA cA) w:=JI w b underlying249;go_enter func226,ntmps226;go_wp2;go_ret;exact⟨rfl,rfl⟩
def fe(a:Nat)(h:a<=6)(b:gB)(w:eA)(c:(aMl==b)=cA)(d:(jb==b)=cA)(f:(aMm==b)=cA)(g:(VK==b)=cA)(i:(ja==b)=cA)(j:(aTc==b)=cA):
 dI 226 #[gH a,.iface 200 (nA b)] w (pA cA):=by
 match a,h with
 |0,_=>exact aRr b w
 |1,_=>exact kF _ _ cA c w
 |2,_=>exact kF _ _ cA d w
 |3,_=>exact kF _ _ cA f w
 |4,_=>exact kF _ _ cA g w
 |5,_=>exact kF _ _ cA i w
 |6,_=>exact kF _ _ cA j w
def aJ(a:Nat)(h:a<=6)(w:eA):dI 248 #[gH a] w (lA mA a):=by
 have c:xA (∀W,dI 226 #[gH a,.iface 200 (nA VJ)] W (pA cA)):=fun W=>fe a h _ W (by kernel_rfl) (by kernel_rfl) (by kernel_rfl) (by kernel_rfl) (by kernel_rfl) (by kernel_rfl);have d:xA (∀W,dI 226 #[gH a,.iface 200 (nA aTe)] W (pA cA)):=fun W=>fe a h _ W (by kernel_rfl) (by kernel_rfl) (by kernel_rfl) (by kernel_rfl) (by kernel_rfl) (by kernel_rfl);have f:xA (∀W,dI 226 #[gH a,.iface 200 (nA jd)] W (pA cA)):=fun W=>fe a h _ W (by kernel_rfl) (by kernel_rfl) (by kernel_rfl) (by kernel_rfl) (by kernel_rfl) (by kernel_rfl);have g:xA (∀W,dI 226 #[gH a,.iface 200 (nA aTd)] W (pA cA)):=fun W=>fe a h _ W (by kernel_rfl) (by kernel_rfl) (by kernel_rfl) (by kernel_rfl) (by kernel_rfl) (by kernel_rfl);have i:xA _:=fun W=>lx a h W;generalize gH a=E at *;go_enter func248,ntmps248;go_wp2_with fail;apply lK (c.o _);go_wp2_with fail;apply lK (d.o _);go_wp2_with fail;apply lK (f.o _);go_wp2_with fail;apply lK (g.o _);go_wp2_with fail;apply lK (i.o _);go_wp2;go_ret;exact⟨rfl,rfl⟩
def ON(w:eA):dI 248 #[.iface 200 (nA VJ)] w (lA mA 20):=by
 go_enter func248,ntmps248;go_wp2_with fail;refine aC (kF _ _ dA (by kernel_rfl) _) ?_;rintro a rfl;go_wp2;go_ret;exact⟨rfl,rfl⟩
def pv(w:eA):dI 248 #[.iface 200 (nA aTe)] w (lA mA 21):=by
 go_enter func248,ntmps248;go_wp2_with fail;refine aC (kF _ _ cA (by kernel_rfl) _) ?_;rintro a rfl;go_wp2_with fail;refine aC (kF _ _ dA (by kernel_rfl) _) ?_;rintro a rfl;go_wp2;go_ret;exact⟨rfl,rfl⟩
def UD(w:eA):dI 248 #[.iface 200 (nA jd)] w (lA mA 22):=by
 go_enter func248,ntmps248;go_wp2_with fail;refine aC (kF _ _ cA (by kernel_rfl) _) ?_;rintro a rfl;go_wp2_with fail;refine aC (kF _ _ cA (by kernel_rfl) _) ?_;rintro a rfl;go_wp2_with fail;refine aC (kF _ _ dA (by kernel_rfl) _) ?_;rintro a rfl;go_wp2;go_ret;exact⟨rfl,rfl⟩
def pt(w:eA):dI 248 #[.iface 200 (nA aTd)] w (lA mA 23):=by
 go_enter func248,ntmps248;go_wp2_with fail;refine aC (kF _ _ cA (by kernel_rfl) _) ?_;rintro a rfl;go_wp2_with fail;refine aC (kF _ _ cA (by kernel_rfl) _) ?_;rintro a rfl;go_wp2_with fail;refine aC (kF _ _ cA (by kernel_rfl) _) ?_;rintro a rfl;go_wp2_with fail;refine aC (kF _ _ dA (by kernel_rfl) _) ?_;rintro a rfl;go_wp2;go_ret;exact⟨rfl,rfl⟩
def pw(a:Nat)(h:a<=6\/a=20\/a=21\/a=22\/a=23)(w:eA):dI 248 #[aOb a] w (lA mA a):=by
 rcases h with h|rfl|rfl|rfl|rfl
 rotate_left
 .exact ON w
 .exact pv w
 .exact UD w
 .exact pt w
 match a,h with
 |0,_=>exact aJ 0 (by omega) w
 |1,_=>exact aJ 1 (by omega) w
 |2,_=>exact aJ 2 (by omega) w
 |3,_=>exact aJ 3 (by omega) w
 |4,_=>exact aJ 4 (by omega) w
 |5,_=>exact aJ 5 (by omega) w
 |6,_=>exact aJ 6 (by omega) w
