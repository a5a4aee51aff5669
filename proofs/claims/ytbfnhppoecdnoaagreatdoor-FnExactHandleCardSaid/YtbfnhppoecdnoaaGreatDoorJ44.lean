import Derived.Test.YtbfnhppoecdnoaaGreatDoorJ16
import Derived.Test.YtbfnhppoecdnoaaGreatDoorJ41
set_option maxRecDepth 100000
set_option maxHeartbeats 8000000
set_option linter.defProp false
open Bool renaming true->dA,false->cA
open ByteArray renaming empty->kA
open Option renaming some->bA,none->aA
open List renaming length->vA
namespace Go.Proofs.YtbfnhppoecdnoaaGreatDoor
open Go renaming World->eA,Value->iA
open Value renaming int->lA,bool->pA,slice->oA,agg->rA,pointer->qA
open IntKind renaming i64->mA
open Go.RowKit Tryz
def wV(a:List dB)(k:Nat)(h:k<vA a):a[k].s.size<=pC a:=by
 have b:=iK a k h;have c:=uJ a (k+1);omega
def mo:∀(a:List aB),(sF a).size<=17*vA a+10*nB a
 |[]=>by simp[sF,nB]
 |t::q=>by
  have c:=mo q;have b:=YH t;show(kW t++sF q).size<=17*(vA q+1)+10*(iE t+nB q);rw[Ka,b];unfold iE;omega
def dt{a:List aB}(h:vA a+nB a<=1048576):aRa a/\KC a/\aCt a/\(sF a).size<=100000000:=by
 have g:∀i(b:i<vA a),iE a[i]<=1048576:=fun i b=>by
  have c:=rI a i b;have d:=zJ a (i+1);omega
 have c:∀i(b:i<vA a),a[i].N.size<=1048576/\vA a[i].M<=1048576/\vA a[i].Z<=1048576/\pC a[i].M<=1048576/\pC a[i].Z<=1048576:=fun i b=>by have:=g i b;unfold iE at this;omega
 have d:∀i(b:i<vA a),(∀j(f:j<vA a[i].M),a[i].M[j].s.size<=1000000000)/\(∀j(f:j<vA a[i].Z),a[i].Z[j].s.size<=1000000000):=fun i b=>
  ⟨fun j e=>by have:=wV _ j e;have:=c i b;omega,fun j e=>by have:=wV _ j e;have:=c i b;omega⟩
 refine⟨fun i b=>⟨?_,?_,?_,(d i b).1,(d i b).2⟩,fun i b=>⟨?_,?_⟩,fun i b=>⟨?_,?_⟩,?_⟩;all_goals first|(have:=c i b;unfold maxLen at *;omega)|(have:=c i b;omega)|(have:=mo a;omega)
section
open Go.Maps
attribute [local go_sem] zG tH cO iB.drewI fO.drewI fO.new fO.alloc fO.alloc2
def ckQ(N:oC)(R:mE×Nat):oC×Int:=if R.2=0 then(⟨R.1,⟨N.l.last+1,N.l.last+1,0⟩,N.now,N.ts,N.lsn,N.deg,N.up⟩,0) else(aQt N R.1,(R.2:Int))
def aTx{c:lC}{N:oC}(h:pH c=dA):upB N=cA/\GN c N=(N,60)\/upB N=dA/\(iJ N.l=cA/\GN c N=(N,21)\/iJ N.l=dA/\(N.l.last=999999/\(N.l.last==999999)=dA/\GN c N=(N,23)\/N.l.last≠999999/\(N.l.last==999999)=cA/\((xP N.lsn N.now N.ts)=kA/\GN c N=(N,62)\/(xP N.lsn N.now N.ts).toList.isEmpty=cA/\GN c N=ckQ N (nJ N.d (aP N.d N.l (xP N.lsn N.now N.ts)))))):=by
 unfold GN;rw[Ja (by simp[h])];cases h1:upB N
 .exact Ca ⟨rfl,Ma rfl⟩
 refine La ⟨rfl,?_⟩;rw[Ja (by simp)];cases h2:iJ N.l
 .exact Ca ⟨rfl,Ma rfl⟩
 refine La ⟨rfl,?_⟩;rw[Ja (by simp)];by_cases a:N.l.last=999999
 .exact Ca ⟨a,by simpa using a,Ma a⟩
 refine La ⟨a,by simpa using a,?_⟩;rw[Ja a];by_cases b:xP N.lsn N.now N.ts=kA
 .exact Ca ⟨b,Ma b⟩
 exact La ⟨BE.2 b,Ja b⟩
def au{lsn now:Int}{a:List aB}(h:(sF a).size<=100000000):(xP lsn now a).size<=200000000:=by
 by_cases b:aw lsn a
 .rw[il b];simp only[wN,PV,Ka,qB];have:ckB.size<=10:=by decide
  omega
 rw[PT b];simp
structure aTn(w:World)(a b:iC)(N:oC):Prop where
 files:eB w a N.d.fs
 fit:CO N.d.fs
 tens:nC w b N.ts
 bulk:vA N.ts+nB N.ts≤1048576
 rng:jz N.ts
 lsn:nU N.lsn
 now:nU N.now
def aKo{L:kG}(h:iJ L=dA):1<=L.first/\L.first<=L.last/\L.last<=999999:=by
 simp only[iJ,wB,Sa,Ab]at h;omega
def NP.turn{w W b:eA}{c:lC}{cs:Array iA}{X:Nat}(h:NP w W c cs)(a:bB (·=X) W b)(d:w.1.size+1+1<X):NP w b c cs:=
 ⟨a.blk h.C (by omega),a.blk h.N (by omega),a.blk h.R (by omega),h.B.trans (a.below h.B.size fun k f e=>by omega)⟩
def NP.grow{w W b:eA}{c:lC}{cs:Array iA}{B:Nat}(h:NP w W c cs)(a:Below B W b)(d:w.1.size+1+1<B):NP w b c cs:=
 ⟨(a.block _ (by omega)).trans h.C,(a.block _ (by omega)).trans h.N,(a.block _ (by omega)).trans h.R,h.B.trans (a.mono (by omega))⟩
def aUx{w:eA}{B n:Nat}{v:iA}{F:List vK}{last:Int}{TX:gB}(h:KA w B v n (F++[⟨1,wY,⟨#[]⟩,⟨#[]⟩,0⟩]++[⟨2,wY,⟨#[]⟩,TX,0⟩]++[⟨3,wY,⟨#[]⟩,⟨#[]⟩,0⟩]++[⟨5,wY,ckN,⟨#[]⟩,0⟩]++[⟨1,jN (last+1),⟨#[]⟩,⟨#[]⟩,0⟩])):KA w B v n (F++AD last TX):=by
 simp only[Nd]at h;exact h
def aUu{c:iC}{n a:Nat}{d e f g:Int}{b:Bool}:∀(j:Nat)(s:gB),(#[iA.slice c n a,lA mA d,lA mA e,lA mA f,lA mA g,pA b]:Array iA)[j]?≠bA (iA.string s)
 |0,_|1,_|2,_|3,_|4,_|5,_|j+6,_=>by simp
def aTt{C:eA->Prop}{w:eA}{O:Nat}{g i j l m n a b c d e f:iA}{t:TypeId}(h:iB w O #[g,i,j,l,m,n] t)(k:∀W,iB W O #[a,b,c,d,e,f] t->bB (·=O) w W->C W):C ((((((w.setCell ⟨O,0,aA⟩ a).setCell ⟨O,1,aA⟩ b).setCell ⟨O,2,aA⟩ c).setCell ⟨O,3,aA⟩ d).setCell ⟨O,4,aA⟩ e).setCell ⟨O,5,aA⟩ f):=
 k _ (by have:=(((((h.set 0 a).set 1 b).set 2 c).set 3 d).set 4 e).set 5 f;simpa using this) (((((((bB.refl (·=O) w).setCell (Ca rfl) 0 a).setCell (Ca rfl) 1 b).setCell (Ca rfl) 2 c).setCell (Ca rfl) 3 d).setCell (Ca rfl) 4 e).setCell (Ca rfl) 5 f)
def aEq(l:List vK):vA (oO l)=vA l*5:=by
 induction l with
 |nil=>rfl
 |cons o r a=>simp[oO]at a |-;omega
def zc{w:eA}{B n f:Nat}{b:iC}{l:List vK}(h:KA w B (oA b n f) n l)(v:0<n):∃g,b=bA ⟨g,0,aA⟩/\g<w.1.size/\∀j u,(oO l)[j]?=bA u->w.cell? ⟨g,j,aA⟩=bA u:=by
 rcases h.2 with⟨_,o⟩|⟨g,i,a,e,t,c,p,q,r,k⟩;omega;simp only[iA.slice.injEq]at e;refine⟨g,e.1,zA c,fun j u d=>?_⟩;have m:j<n*5:=by
  have s:=h.1;have:=(Pb.1 d).1;omega
 rw[iB.cell (show iB w g a _ from c) j,<-Yd,<-d,<-k,Jb m]
def aAa(c:lC)(a b:iC)(t s:Nat)(N:oC)(w:eA)(h:aTn w a b N):
 Calls prog 26 #[oF c,rA (dC a t b s N)] w fun e S=>aAs (GN c N) w e S:=by
 have p:=h.bulk;have l:=h.fit.len;obtain⟨e1,_,_,e4⟩:=dt h.bulk;have d:=yA (fun W=>pM c W);have HCP:xA (∀W,kB w W->Calls prog 14 #[rA (dC a t b s N)] W fun e S=>∃a t b s,e=.returned (rA (dC a t b s N))/\eB S a N.d.fs/\nC S b N.ts/\kB W S):=fun W I=>(iO a b t s N W (h.files.z I) l (h.tens.z I) (by omega) (tP (by omega))).mono fun e S ⟨a,t,b,s,m,G,o,B⟩=>⟨a,t,b,s,m,G.files,o.tens,B⟩
 have HES:=yA (fun W(I:kB w W)=>sn N.lsn N.now b s N.ts W (h.tens.z I) e1 h.rng h.lsn h.now (by omega) e4);have D:=yA (fun W=>DS N.l W);have HFL:xA (∀W a' U K,N.up=dA->kB w W->Calls prog 62 #[rA (dC a t b s N),rA #[oA a' (vA K.fs) U,lA mA K.c,lA mA K.k,lA mA K.cr,lA mA K.fl,pA K.dn],rA #[lA mA N.l.first,lA mA N.l.last,lA mA N.l.size]] W fun e S=>∃b s,e=.returned (rA (dC a' U b s ⟨K,N.l,N.now,N.ts,N.lsn,dA,!K.dn⟩))/\nC S b N.ts/\kB W S):=fun W a' U K O I=>(IL a b a' t s U N K N.l W (h.files.z I) l (h.tens.z I) (by omega) (tP (by omega)) O).mono fun e S ⟨b,s,m,o,B⟩=>⟨b,s,m,o.tens,B⟩
 have U:=yA (fun W(I:kB w W)=>TJ a t N.d.fs N.d.c N.d.k N.d.cr N.d.fl N.d.dn wY W (h.files.z I) (by unfold maxLen;omega));have HFI:=yA (fun W(I:kB w W)=>h.files.z I);have T:=yA (fun n W=>gV n W);have HV0:=yA (fun h=>show GN c N=(qK,61) by unfold GN;exact Ma h);have F:=yA (fun h=>aTx (c:=c) (N:=N) h);have z:=yA (XW (K:=N.d) (L:=N.l) (au (lsn:=N.lsn) (now:=N.now) e4));have HF0:=yA h.fit;have I:=yA (fun h=>aKo (L:=N.l) h);clear h p l e1 e4;unfold oF at *;generalize GN c N=V at *;generalize xP N.lsn N.now N.ts=TX at *;have h:=jP;have h:=yA (NP.new (w:=w) (c:=c) (cs:=dC a t b s N));go_enter func26,ntmps26;go_wp2_with fail;apply aC (d.o _);intro w1 p;have P:=yA (h.o.z p);clear p d h;have m:=P.o.cells rfl;cases hc:pH c with
 |false=>
  have E:=yA (HV0.o hc);go_wp2;exact pY (ca:=0) (cb:=0) rfl rfl rfl rfl P.o E.o (Ca rfl) (Ca rfl)
 |true=>
  replace F:=yA (F.o hc);rcases F.o with⟨O,E⟩|⟨O,⟨l,E⟩|⟨l,⟨h9,d,E⟩|⟨h9,d,⟨rfl,E⟩|⟨d,E⟩⟩⟩⟩
  rotate_left 4
  .obtain ⟨Q,k2⟩:N.up=dA/\N.deg=cA:=by simpa[upB]using O
   replace E:=yA E;clear F O;rw[l]at D;have rN:=tF a t b s N 43;have fN:=iF a t b s N;rw[Q,k2]at rN fN;replace Q:=yA Q;replace k2:=yA k2;obtain⟨h,h,h⟩:=I.o l;have hwl:IntKind.i64.wrap (N.l.last+1)=N.l.last+1:=by rw[IntKind.wrap_i64];omega
   go_wp2_with fail;apply aC (D.o _);intro w6 p;replace P:=yA (P.o.z p);clear p m;have m:=P.o.cells rfl;go_wp2_with fail;apply aC (HES.o _ P.o.B);intro h p;replace P:=yA (P.o.z p);clear p m;have m:=P.o.cells rfl;have B:=P.o.lt;go_wp2_with fail;apply aC (U.o _ (oB P.o.B vB));intro w4 p;have q:=yA ((KA.new h).z p);replace p:=oB vB p;replace P:=yA (P.o.z p);have o:=p.size;clear p m;have m:=P.o.cells rfl;clear I D HES U l d;go_upto_if 52 with fail;go_cut [7] (fun v G=>∃n,n<=1/\NP w G c (dC a t b s N)/\KA G h.1.size v n (eP N.d.fs)/\h.1.size<=G.1.size)
   case first=>
    by_cases Y:0<=vF wY N.d.fs 0
    .have d:=yA (show eP N.d.fs=[ZR] from Ma Y);go_wp2_with(at_builtin;refine LX rfl _ _ rfl h.1.size _ _ _ _ _ _ _ _ rfl (by assumption) rfl (by omega) (by omega) ?_;intro g cap G q p;have o:=p.size;replace P:=yA (P.o.grow p B);clear p m;have m:=P.o.cells rfl);go_meet;exact⟨1,by omega,P.o,by rw[d.o];exact q.o,by omega⟩
    have d:=yA (show eP N.d.fs=[] from Ja Y);go_wp2;go_meet;exact⟨0,by omega,P.o,by rw[d.o];exact q.o,o⟩
   clear P q o m;obtain⟨Z,d,d,q,o⟩:=hcut;rename eA=>w4;replace q:=yA q;have P:=yA d;clear d;have m:=P.o.cells rfl;have EL:xA (aP N.d N.l TX=eP N.d.fs++(AD N.l.last TX++yR N.l.first (N.l.last+1-N.l.first).toNat)):=rfl;generalize eP N.d.fs=F0 at *;obtain⟨d,Y⟩:∃d:Nat,(d:Int)=N.l.last+1-N.l.first:=⟨(N.l.last+1-N.l.first).toNat,by omega⟩
   rw[show(N.l.last+1-N.l.first).toNat=d by omega,<-Nd]at EL;go_wp2_with(first
    |(at_builtin;refine LX rfl _ _ rfl h.1.size _ _ _ _ _ _ _ _ rfl (by assumption) rfl (by omega) (by omega) ?_;intro g cap G q p;have o:=p.size;replace P:=yA (P.o.grow p B);clear p m;have m:=P.o.cells rfl)
    |(go_at_call 69;apply aC (T.o _ _);intro w5 p;have o:=p.size;replace q:=yA (q.o.z p);replace P:=yA (P.o.z p);clear p m;have m:=P.o.cells rfl))
   replace q:=yA (aUx (last:=N.l.last) (TX:=TX) q.o);generalize F0++AD N.l.last TX=L0 at *;clear m;go_loopw [7,8] (fun al i Y=>∃(k:Nat),k<=d/\i=lA mA (N.l.first+k)/\xA (KA Y h.1.size al (Z+1+1+1+1+1+k) (L0++yR N.l.first k))/\xA (NP w Y c (dC a t b s N))/\h.1.size<=Y.1.size) (fun _ i _=>(N.l.last+1-RowKit.intOf i).toNat)
   case atStart=>exact⟨0,Oa _,by simp,by simpa[yR]using q,P,by omega⟩
   case round=>
    clear P q;obtain⟨k,hk,rfl,q,P,o⟩:=hrel;have m:=P.o.cells rfl;by_cases hlt:k<d
    .have hle:N.l.first+(k:Int)<=N.l.last:=by omega
     have hwk:IntKind.i64.wrap (N.l.first+(k:Int)+1)=N.l.first+(k:Int)+1:=by rw[IntKind.wrap_i64];omega
     go_wp2_with(first
      |(go_at_call 69;apply aC (T.o _ _);intro w5 p;have o:=p.size;replace q:=yA (q.o.z p);replace P:=yA (P.o.z p);clear p m;have m:=P.o.cells rfl)
      |(at_builtin;refine LX rfl _ _ rfl h.1.size _ _ _ _ _ _ _ _ rfl (by assumption) rfl (by omega) (by omega) ?_;intro g cap G q p;have o:=p.size;replace P:=yA (P.o.grow p B);clear p m;have m:=P.o.cells rfl))
     exact⟨⟨k+1,by omega,by go_num,by rw[RG,<-Nd];exact q,P,by omega⟩,by simp[RowKit.intOf];omega⟩
    obtain rfl:k=d:=by omega
    have hle:¬N.l.first+(k:Int)<=N.l.last:=by omega
    obtain⟨al,d,d⟩:=pQ q.o;have HLL:xA (vA (L0++yR N.l.first k)=Z+1+1+1+1+1+k):=by have:=q.o.1;rw[aEq]at this;show _=_;omega
    have o:Z+1+1+1+1+1+k<=2000000:=by omega
    have o:0<Z+1+1+1+1+1+k:=by omega
    generalize Z+1+1+1+1+1+k=n at *;subst d;generalize L0++yR N.l.first k=H at *
    obtain⟨G,rfl,B,A⟩:=zc q.o o;have d:=yA A;clear A q;go_wp2;refine tL (C:=fun W=>Code.wp prog _ _ _ W) ?_;intro Z X o _;have hDd:=P.o.lt;have PD:=yA (P.o.z X);have FD:=yA (HFI.o Z PD.o.B);have CD:=yA (fun j u(O:(oO H)[j]?=bA u)=>(eA.cell?_of_block (X.block G B)).trans (d.o j u O));have hGD:G<Z.1.size:=Bb B X.size;have hGn:G≠wr.1.size:=by omega
    replace o:=yA o;clear P d B X HFI T hle hwl m;generalize wr.1.size=d at *;go_loopw [103] (fun i Y=>∃(j:Nat)(K:mE)(aj:iC)(cj:Nat),j<=n/\i=lA mA j/\xA (nJ N.d (H.take j)=(K,0))/\xA (iB Y d #[oA aj (vA K.fs) cj,lA mA K.c,lA mA K.k,lA mA K.cr,lA mA K.fl,pA K.dn] 37)/\xA (eB Y aj K.fs)/\xA (bB (·=d) Z Y)) (fun i _=>n-(RowKit.intOf i).toNat)
    case atStart=>exact⟨0,N.d,a,t,Oa _,rfl,rfl,o.o,FD.o,bB.refl _ _⟩
    case round=>
     obtain⟨j,K,aj,cj,d,rfl,r,Z,hfj,d⟩:=hrel;have P:=yA (PD.o.turn d.o hDd);have m:=P.o.cells rfl;clear o FD;by_cases o:j<n
     .have J:j<vA H:=by rw[HLL.o];exact o
      have hgk:=d.o.block G hGD hGn;obtain⟨q0,q1,q2,q3,q4⟩:=aUf (fun i u O=>(eA.cell?_of_block hgk).trans (CD.o i u O)) j J;obtain⟨op,M⟩:∃op,op=H[j]:=⟨_,rfl⟩
      have B:=z.o op (by rw[EL.o,M];exact Gb J);have HE:=yA (show H.take (j+1)=H.take j++[op] by rw[M,Pa J]);have HX:=yA (show H=H.take j++op::H.drop (j+1) by
       conv=>lhs;rw[<-Za j H,Cb J,<-M])
      have G:CO K.fs:=by
       have:=dy (H.take j) N.d HF0.o (fun o Y=>z.o o (by rw[EL.o];exact Ce Y));rw[r.o]at this;exact this
      have o:=yA (aMi G B.1 B.2.1 B.2.2);obtain⟨⟨K1,y⟩,Y⟩:∃R,lE K op=R:=⟨_,rfl⟩
      have HS1:=yA Y;rw[Y]at o;rw[<-M]at q0 q1 q2 q3 q4;have hGw:=Bb hGD d.o.size;clear M B G Y hgk J;go_upto_region 28 with fail;refine tL (C:=fun W=>Code.wp prog _ _ _ W) ?_;intro w8 B G _;have x:=(Z.o.z B).c6;have x2x:=G.c5;have Y:=yA B;clear q0 q1 q2 q3 q4 G B m;go_wp2_with fail;refine(o.o _ _ _ (hfj.o.z Y.o)).mono ?_;rintro e w9 ⟨a9,c9,rfl,G,B⟩;have D9:=yA ((Z.o.z Y.o).z B);have B9:=yA (oB Y.o B);have F9:=yA G;clear G B o Y x2x x;go_upto_region 29 with fail;refine tL (C:=fun W=>Code.wp prog _ _ _ W) ?_;intro wa Y B _;have x:=B.c6;have o:=yA (D9.o.z Y);have f:=o.o.free;obtain⟨e0,e1,e2,e3,e4,e5⟩:=o.o.c6;have G:=yA (F9.o.z Y);have Ba:=yA (oB B9.o Y);clear Y B D9 F9 B9;go_upto_region 30 with fail;refine aTt (C:=fun W=>Code.wp prog _ _ _ W) o.o ?_;intro B B Y;have Fb:=yA (G.o.store o.o (aUu) Y);have Tz:=yA ((d.o.trans' (bB.of Ba.o)).trans' Y);replace B:=yA B;replace P:=yA (PD.o.turn Tz.o hDd);clear f e0 e1 e2 e3 e4 e5 Y o G Ba x;have m:=P.o.cells rfl;by_cases d:y=0
      .subst d;go_wp2;refine⟨⟨j+1,K1,a9,c9,by omega,by go_num,?_,B.o,Fb.o,Tz.o⟩,by simp[RowKit.intOf];omega⟩;show _=_;rw[HE.o,CF op (by rw[r.o]),r.o];exact HS1.o
      have Y:xA (V=(⟨K1,N.l,N.now,N.ts,N.lsn,dA,!K1.dn⟩,(y:Int))):=by
       show _=_;rw[E.o,EL.o,HX.o,LL op (by rw[r.o]) (by rw[r.o];show(lE K op).2≠0;rw[HS1.o];exact d),r.o];dsimp only;rw[HS1.o,ckQ,Ja d];rfl
      have o:((y:Int)==0)=cA:=by simpa using d
      have x:=B.o.c6;go_wp2_with fail;refine(HFL.o _ a9 c9 K1 Q.o P.o.B).mono ?_;rintro e d ⟨b9,d9,rfl,d,p⟩;replace P:=yA (P.o.z p);have hF:=Fb.o.z p;clear p m x;have m:=P.o.cells rfl;go_wp2;exact pY rfl rfl rfl rfl P.o Y.o hF d
     obtain rfl:j=n:=by omega
     have Y:xA (V=(⟨K,⟨N.l.last+1,N.l.last+1,0⟩,N.now,N.ts,N.lsn,N.deg,N.up⟩,0)):=by
      have o:=r.o;rw[Ra (by rw[HLL.o];exact Ia _),<-EL.o]at o;show _=_;rw[E.o,o,ckQ,Ma rfl]
     have o:¬((j:Int)<(j:Int)):=by omega
     go_wp2_with fail;refine(HCP.o _ P.o.B).mono ?_;rintro e w8 ⟨o,o,b8,d8,rfl,_,d,p⟩;replace P:=yA (P.o.z p);have D8:=yA (Z.o.z p);have F8:=yA (hfj.o.z p);clear p Z hfj HCP HFL z m;have m:=P.o.cells rfl;go_upto_region 34 with fail;refine nZ (C:=fun W=>Code.wp prog _ _ _ W) P.o.N ?_;intro w9 o B;have D9:=B.blk D8.o (by omega);have F9:=yA (F8.o.store P.o.N (bH _ _ _ _ _) B);have H9:=yA (d.store P.o.N (bH _ _ _ _ _) B);replace P:=yA (P.o.put o B);have x:=D9.c6;obtain⟨o0,o1,o2,o3,o4,o5,o6,o7,o8,o9,Z,o11,o12,o13⟩:=tF _ _ _ _ _ _ _ _ o;have f:=o.free;clear d B D9 D8 F8 rN fN m;go_upto_region 36 with fail;refine aIi (C:=fun W=>Code.wp prog _ _ _ W) o ?_;intro wa W B;change iB wa _ (dC aj cj b8 d8 ⟨K,⟨N.l.last+1,N.l.last+1,0⟩,N.now,N.ts,N.lsn,N.deg,N.up⟩) _ at W;have G:=yA (F9.o.store P.o.N (bH _ _ _ _ _) B);have Ha:=yA (H9.o.store P.o.N (bH _ _ _ _ _) B);replace P:=yA (P.o.put W B);have rM:=tF aj cj b8 d8 ⟨K,⟨N.l.last+1,N.l.last+1,0⟩,N.now,N.ts,N.lsn,N.deg,N.up⟩ 43;have fM:=iF aj cj b8 d8 ⟨K,⟨N.l.last+1,N.l.last+1,0⟩,N.now,N.ts,N.lsn,N.deg,N.up⟩;dsimp only at fM rM;clear o0 o1 o2 o3 o4 o5 o6 o7 o8 o9 Z o11 o12 o13 f o W B x;have m:=P.o.cells rfl;go_wp2;exact pY rfl rfl rfl rfl P.o Y.o G.o Ha.o
  all_goals
   rcases aUo O with⟨o,Q⟩|⟨o,Q,k2⟩|⟨o,Q,k2⟩
  all_goals cases o
  all_goals
   replace E:=yA E;clear F O HFL U HFI T z HF0 I HV0;(try clear h9);(try rw[l]at D);have rN:=tF a t b s N 43;have fN:=iF a t b s N;rw[Q]at rN fN;(try (rw[k2]at rN fN;clear k2));replace Q:=yA Q;go_wp2_with(first
    |(go_at_call 14;refine(HCP.o _ P.o.B).mono ?_;rintro e w9 ⟨a9,c9,b9,d9,rfl,hF,d,p⟩;replace P:=yA (P.o.z p);clear p m;have m:=P.o.cells rfl)
    |(go_at_call 66;apply aC (D.o _);intro w6 p;replace P:=yA (P.o.z p);clear p m;have m:=P.o.cells rfl)
    |(go_at_call 67;apply aC (HES.o _ P.o.B);intro h p;replace P:=yA (P.o.z p);clear p m;have m:=P.o.cells rfl))
   exact pY rfl rfl rfl rfl P.o E.o hF d
end
def aRh{c:lC}{N:oC}(h:pH c=cA):GN c N=(qK,61):=by unfold GN;rw[Ma h]
section
open Go.Maps
attribute [local go_sem] zG tH cO iB.drewI fO.drewI fO.new fO.alloc fO.alloc2
def aNo{C:eA->Prop}{w:eA}{O:Nat}{r s u v x y z A B m n o p q a b c d e f g i j:iA}{t:TypeId}(h:iB w O #[r,s,u,v,x,y,z,A,B,m,n,o,p,q] t)
(k:∀l,iB l O #[a,b,c,d,e,f,g,i,j,m,n,o,p,q] t->bB (·=O) w l->C l):C (((((((((w.setCell ⟨O,0,aA⟩ a).setCell ⟨O,1,aA⟩ b).setCell ⟨O,2,aA⟩ c).setCell ⟨O,3,aA⟩ d).setCell ⟨O,4,aA⟩ e).setCell ⟨O,5,aA⟩ f).setCell ⟨O,6,aA⟩ g).setCell ⟨O,7,aA⟩ i).setCell ⟨O,8,aA⟩ j):=
 k _ (by have:=(((((((((h.set 0 a).set 1 b).set 2 c).set 3 d).set 4 e).set 5 f).set 6 g).set 7 i).set 8 j);simpa using this) ((((((((((bB.refl (·=O) w).setCell (Ca rfl) 0 a).setCell (Ca rfl) 1 b).setCell (Ca rfl) 2 c).setCell (Ca rfl) 3 d).setCell (Ca rfl) 4 e).setCell (Ca rfl) 5 f).setCell (Ca rfl) 6 g).setCell (Ca rfl) 7 i).setCell (Ca rfl) 8 j)
def iI.disk{w:eA}{A F:Nat->Prop}{a b a2:iC}{N M:oC}(h:iI w A a b N)(i:wG w F a2 M.d.fs)(j:M.ts=N.ts)(g:∀x,F x->¬A x):iI w (fun x=>A x\/F x) a2 b M:=by
 obtain⟨k,T,l,f,m,e,n⟩:=h.parts;exact⟨F,T,i,by rw[j];exact f,fun x c=>La c,fun x c=>Ca (e x c),fun x c h=>g x c (e x h)⟩
def xk(c:lC)(a b:iC)(s r:Nat)(N:oC)(w:eA)(h:aTn w a b N)(Z:oL w):
 Calls prog 139 #[oF c,rA (dC a s b r N)] w fun e A=>jw (GN c N) w e A:=by
 have i:=h.bulk;have d:=yA (fun W=>AH c W);have k:xA (∀W,kB w W->Calls prog 33 #[rA (dC a s b r N)] W fun e A=>∃a s b r,e=.returned (rA (dC a s b r N))/\iI A (fun x=>W.1.size<=x/\x<A.1.size) a b N/\kB W A):=fun W U=>oX a b s r N W (h.files.z U) h.fit.len (h.tens.z U) (by omega) (tP (by omega));have l:xA (∀W a s b r,qD 179 #[rA (dC a s b r N)] W (pA (upB N))):=fun W a s b r=>sZ a b s r N W;obtain⟨o,_,_,J⟩:=dt h.bulk;have B:=yA (fun W b' cb'(U:nC W b' N.ts)=>nw N.lsn N.now b' cb' N.ts W U o (by omega) J);have HLG:=yA (fun W=>YX N.l W);have HDV:=yA (fun W S u(U:eB W S N.d.fs)=>DH S u N.d.fs N.d.c N.d.k N.d.cr N.d.fl N.d.dn W U h.fit.H (by have:=h.fit.len;unfold maxLen;omega) h.fit.sum);have G:=yA (fun W S u(U:eB W S N.d.fs)=>ZN S u N.d.fs N.d.c N.d.k N.d.cr N.d.fl N.d.dn W U h.fit.len);have z:xA (∀W a s b r S u K L,qD 183 #[rA (dC a s b r N),rA #[oA S (vA K.fs) u,lA mA K.c,lA mA K.k,lA mA K.cr,lA mA K.fl,pA K.dn],rA #[lA mA L.first,lA mA L.last,lA mA L.size]] W (rA (dC S u b r ⟨K,L,N.now,N.ts,N.lsn,dA,!K.dn⟩))):=fun W a s b r S u K L=>RY a b S s r u N K L W;have m:=yA (fun h=>aRh (c:=c) (N:=N) h);have I:=yA (fun h=>aTx (c:=c) (N:=N) h);have Y:=yA Z;clear h Z i o J;unfold oF at *;generalize GN c N=V at *;generalize xP N.lsn N.now N.ts=tx at *;have o:=jP;go_enter func139,ntmps139;go_wp2_with fail;apply aC (d.o _);intro w1 i;have P:=yA ((NP.new (w:=w) (c:=c) (cs:=dC a s b r N)).z i);clear i d;have o:=P.o.cells rfl;cases hc:pH c with
 |false=>
  have E:=yA (m.o hc);go_wp2;exact bO (H:=0) (ca:=0) (cb:=0) rfl rfl rfl rfl P.o E.o ⟨⟨fun _=>False,fun _=>False,Ca rfl,Ca rfl,fun _ h=>h.elim,fun _ h=>h.elim,fun _ h=>h.elim⟩⟩ (Oa _)
 |true=>
  replace I:=yA (I.o hc);have rN:=tF a s b r N 43;have fN:=iF a s b r N;go_wp2_with fail;refine(k.o _ P.o.B).mono ?_;rintro e w2 ⟨X,c2,J,O,rfl,j,i⟩;have d:=P.o.lt;replace P:=yA (P.o.z i);replace j:=yA j;clear i rN fN o k m hc;have o:=P.o.cells rfl;go_upto_region 4 with fail;refine nZ (C:=fun W=>Code.wp prog _ _ _ W) P.o.N ?_;intro d k d;replace P:=yA (P.o.put k d);replace j:=yA ((j.o.turned d (fun x p _ e=>by omega)).mono (A':=fun x=>w.1.size+1+1<x/\x<w2.1.size) (fun x p=>by omega));have y:=d.size;clear k d o;have o:=P.o.cells rfl;have rN:=tF X c2 J O N 43;have fN:=iF X c2 J O N;go_wp2_with fail;apply aC (l.o _ _ _ _ _);intro w4 i;replace P:=yA (P.o.z i);replace j:=yA (j.o.z i);replace y:=Ua y i.size;clear i o l;have o:=P.o.cells rfl;rcases I.o with⟨hu,E⟩|⟨hu,⟨hl,E⟩|⟨hl,⟨h9,d,E⟩|⟨h9,d,⟨rfl,E⟩|⟨Z,E⟩⟩⟩⟩
  rotate_left 4
  .replace E:=yA E;rw[hu];clear I hu;have m:N.l.last<999999:=by have:=aKo hl;omega
   clear h9;go_wp2_with fail;apply aC (B.o _ _ _ j.o.tens);intro w5 i;replace P:=yA (P.o.z i);replace j:=yA (j.o.z i);replace y:=Ua y i.size;clear i o;have o:=P.o.cells rfl;go_wp2_with fail;apply aC (HLG.o _);intro w6 i;replace P:=yA (P.o.z i);replace j:=yA (j.o.z i);replace y:=Ua y i.size;clear i o;have o:=P.o.cells rfl;rw[hl];go_wp2_with fail;apply aC (HDV.o _ _ _ j.o.files);intro k i;replace P:=yA (P.o.z i);replace j:=yA (j.o.z i);replace y:=Ua y i.size;clear i o;have o:=P.o.cells rfl;cases hdv:fF N.d.fs N.d.c N.d.k N.d.cr N.d.fl with
   |false=>
    have E2:=yA (show V=(⟨⟨[],0,0,0,0,cA⟩,N.l,N.now,N.ts,N.lsn,dA,dA⟩,6) by rw[E.o,aPu hdv];rfl);replace z:=yA (fun W=>z.o W X c2 J O aA 0 ⟨[],0,0,0,0,cA⟩ N.l);clear hdv;go_wp2_with fail;apply aC (z.o _);intro q i;replace P:=yA (P.o.z i);replace j:=yA (j.o.z i);replace y:=Ua y i.size;clear i o;have o:=P.o.cells rfl;go_wp2;exact bO rfl rfl rfl rfl P.o E2.o ((j.o.disk (M:=⟨⟨[],0,0,0,0,cA⟩,N.l,N.now,N.ts,N.lsn,dA,dA⟩) (a2:=aA) (F:=fun _=>False) (Ca rfl) rfl (fun _ h=>h.elim)).mono fun x p=>p.resolve_right id) y
   |true=>
    have Q:=yA (fun A(i:kB k A)=>(P.o.z i).N);have Z:=yA (fun A(i:kB k A)=>j.o.files.z i);go_wp2_with fail;go_region_held3 (fun A=>iB A (w.1.size+1) (dC X c2 J O N) 43)
     (first|with_reducible exact Q.o _ l|with_reducible exact Q.o _ eD.drew|with_reducible exact Q.o _ (oB l vB))
     (first|(go_at_call 184;refine(G.o _ X c2 (Z.o _ eD.drew)).mono ?_;rintro e q ⟨D,v,rfl,hd8,hb8⟩;have l:kB k q:=oB eD.drew hb8))
    refine bz (C:=fun W=>Exit.then _ _ _ _ W) ?_;intro h d G9;have WS:=yA (show qV k h k.1.size q.1.size D N.d N.l from⟨Y.o.z P.o.B,oB l d,Ia _,l.size,G9,⟨v,hd8.z d⟩,hdv⟩);have h:=yA (QY tx WS.o hl m);obtain⟨⟨m,x1⟩,hR1⟩:∃R,nJ N.d (aP N.d N.l tx)=R:=⟨_,rfl⟩
    have k:=yA (LK (aP N.d N.l tx) N.d);rw[hR1]at h k E;have h8:=l.size;clear hR1 hd8 hb8 d G9 WS Q Z G Y l o hdv;go_wp2_with fail;apply aC h.o;intro G Z;have ba:=Z.below;have d:=P.o.lt;replace P:=yA (P.o.z ba);have hA7:=yA (j.o.z ba);have l:=yA Z;have d:=ba.size;obtain⟨v1,d⟩:=Z.drive;obtain⟨a1,c1,rfl,Y⟩:=cH d.row;have FA:=yA (Y.toA (Ia _));have HU:=yA (fun W(U:kB G W)=>BH D 293 a1 (vA m.fs) c1 m.c m.k m.cr m.fl m.dn W (d.blk.z U));clear ba Z d Y h j;by_cases p:x1=0
    .subst p;simp only[gH,ckL,Td]at l |-
     have E2:=yA (show V=(⟨m,⟨N.l.last+1,N.l.last+1,0⟩,N.now,N.ts,N.lsn,N.deg,N.up⟩,0) by rw[E.o];rfl);have Q:=yA (fun n(p:bB (·=w.1.size+1) G n)=>show cC n q.1.size 0 (qA (bA ⟨D,0,aA⟩))/\cC n q.1.size 1 (lA mA (N.l.last+1))/\cC n q.1.size 2 (lA mA (N.l.last+1))/\cC n q.1.size 3 (lA mA 0) from(p.blk l.o.wr (by omega)).c4);have o:=l.o.wr.c4;go_wp2_with fail;go_region_held3 (fun n=>n.cell? ⟨q.1.size,0,aA⟩=bA (qA (bA ⟨D,0,aA⟩))/\n.cell? ⟨q.1.size,1,aA⟩=bA (lA mA (N.l.last+1))/\n.cell? ⟨q.1.size,2,aA⟩=bA (lA mA (N.l.last+1))/\n.cell? ⟨q.1.size,3,aA⟩=bA (lA mA 0))
      ((refine Q.o _ ?_;first|with_reducible exact h|with_reducible exact bB.drew (bB.refl _ _)|with_reducible exact f|with_reducible exact g))
      (first|(go_at_call 186;apply aC (HU.o _ eD.drew);intro U Y;have T:kB G U:=oB eD.drew Y;have h:bB (·=w.1.size+1) G U:=bB.of T;have f:=((((((h.setCell (Ca rfl) 0 (oA a1 (vA m.fs) c1)).setCell (Ca rfl) 1 (lA mA m.c)).setCell (Ca rfl) 2 (lA mA m.k)).setCell (Ca rfl) 3 (lA mA m.cr)).setCell (Ca rfl) 4 (lA mA m.fl)).setCell (Ca rfl) 5 (pA m.dn));have g:=(((f.setCell (Ca rfl) 6 (lA mA (N.l.last+1))).setCell (Ca rfl) 7 (lA mA (N.l.last+1))).setCell (Ca rfl) 8 (lA mA 0));have Z:=yA (P.o.z T).N;have d:=iB.n14 Z.o;have ff:=Z.o.frees))
     clear d ff f g h Q HU o Y;refine aNo (C:=fun W=>Exit.then _ _ _ _ W) Z.o ?_;intro wq PQ d;have hzb:=T.size;have hzq:=d.size;have NQ:=yA ((((hA7.o.z T).turned d (fun x p _ e=>by omega)).disk (M:=⟨m,⟨N.l.last+1,N.l.last+1,0⟩,N.now,N.ts,N.lsn,N.deg,N.up⟩) ((FA.o.z T).turned d (fun x p _ e=>by omega)) rfl (fun x p e=>by omega)).mono (A':=fun x=>w.1.size+1+1<x/\x<G.1.size) (fun x p=>by omega));replace P:=yA ((P.o.z T).put (show iB wq _ (dC a1 c1 J O ⟨m,⟨N.l.last+1,N.l.last+1,0⟩,N.now,N.ts,N.lsn,N.deg,N.up⟩) _ from PQ) d);have o:=P.o.cells rfl;clear PQ d Z T rN fN;have d:=tF a1 c1 J O ⟨m,⟨N.l.last+1,N.l.last+1,0⟩,N.now,N.ts,N.lsn,N.deg,N.up⟩ 43;have Z:=iF a1 c1 J O ⟨m,⟨N.l.last+1,N.l.last+1,0⟩,N.now,N.ts,N.lsn,N.deg,N.up⟩;dsimp only at d Z;go_wp2;exact bO rfl rfl rfl rfl P.o E2.o NQ.o (by omega)
    have E2:=yA (show V=(⟨m,N.l,N.now,N.ts,N.lsn,dA,!m.dn⟩,(x1:Int)) by rw[E.o];exact Ja p);obtain⟨t,Z⟩:=eK p k.o;rw[show ckL N.l (m,x1).2=N.l from Ja p]at l;have d:=yA (fun W=>lx x1 k.o W);rw[Z]at d |-
    clear Z;have Q:=yA (fun n(p:bB (·=w.1.size+1+1) G n)=>show iB n (w.1.size+1) (dC X c2 J O N) 43/\cC n q.1.size 0 (qA (bA ⟨D,0,aA⟩))/\cC n q.1.size 1 (lA mA N.l.first)/\cC n q.1.size 2 (lA mA N.l.last)/\cC n q.1.size 3 (lA mA N.l.size) from⟨p.blk P.o.N (by omega),(p.blk l.o.wr (by omega)).c4⟩);replace z:=yA (fun W=>z.o W X c2 J O a1 c1 m N.l);have o:=l.o.wr.c4;go_wp2_with fail;go_region_held3 (fun n=>iB n (w.1.size+1) (dC X c2 J O N) 43/\n.cell? ⟨q.1.size,0,aA⟩=bA (qA (bA ⟨D,0,aA⟩))/\n.cell? ⟨q.1.size,1,aA⟩=bA (lA mA N.l.first)/\n.cell? ⟨q.1.size,2,aA⟩=bA (lA mA N.l.last)/\n.cell? ⟨q.1.size,3,aA⟩=bA (lA mA N.l.size))
     ((refine Q.o _ ?_;first|with_reducible exact l|with_reducible exact h|with_reducible exact bB.drew (bB.refl _ _)|with_reducible exact Z))
     (first
     |(go_at_call 186;apply aC (HU.o _ eD.drew);intro U Y;have T:kB G U:=oB eD.drew Y;have h:bB (·=w.1.size+1+1) G U:=bB.of T)
     |(go_at_call 183;apply aC (z.o _);intro U W;have k:kB G U:=oB T W;have l:bB (·=w.1.size+1+1) G U:=bB.of k;have Z:=l.trans' (sI U (w.1.size+1+1) (dC a1 c1 J O ⟨m,N.l,N.now,N.ts,N.lsn,dA,!m.dn⟩));have J:=(P.o.z k).R.box rfl)
     |(go_at_call 187;apply lK (d.o _)))
    have J:=k.size;have O:=yA (((hA7.o.z k).disk (M:=⟨m,N.l,N.now,N.ts,N.lsn,dA,!m.dn⟩) (FA.o.z k) rfl (fun x p e=>by omega)).mono (A':=fun x=>w.1.size+1+1<x/\x<G.1.size) (fun x p=>by omega));clear Z h l Q HU z d;go_wp2;exact bO rfl rfl rfl rfl (P.o.z k) E2.o O.o J
  all_goals
   replace E:=yA E;rw[hu];clear I hu;(try clear h9);go_wp2_with(first
    |(go_at_call 180;apply aC (B.o _ _ _ j.o.tens);intro w5 i;replace P:=yA (P.o.z i);replace j:=yA (j.o.z i);replace y:=Ua y i.size;clear i o;have o:=P.o.cells rfl)
    |(go_at_call 181;apply aC (HLG.o _);intro w6 i;replace P:=yA (P.o.z i);replace j:=yA (j.o.z i);replace y:=Ua y i.size;clear i o;have o:=P.o.cells rfl;rw[hl]))
   exact bO rfl rfl rfl rfl P.o E.o j.o y
end
