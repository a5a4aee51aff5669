import Derived.Test.YtbfnhppoecdnoaaGreatDoorJ35
import Derived.Test.YtbfnhppoecdnoaaGreatDoorJ33
set_option maxRecDepth 100000
set_option maxHeartbeats 8000000
set_option linter.defProp false
open Bool renaming true->dA,false->cA
open Option renaming some->bA,none->aA
open ByteArray renaming empty->kA
open List renaming length->vA
namespace Go.Proofs.YtbfnhppoecdnoaaGreatDoor
open Go renaming World->eA,Value->iA
open Value renaming int->lA,bool->pA,agg->rA,slice->oA,string->nA
open IntKind renaming i64->mA
open Ending renaming returned->sA
open Obj renaming cells->tA
open Go.RowKit Tryz
section
open Go.Maps
def aKu{win now:Int}{left:Lit->Bool}{a:List aB}(c:wC (·.N) a){t:aB}(d:t∈a)(b:left (kL t.N)=dA):
 nI win now (fun s=>(fun z=>left z&&!z.sameKey (kL t.N)) (kL s)) a=if aF (bF win now t)=dA then xE (·.N) t.N (nI win now (fun s=>left (kL s)) a) else gC (·.N) (bF win now t) (nI win now (fun s=>left (kL s)) a):=by grind [wC,kL,nI,aF,bF,xE,gC,yv,FK]
def aFy(l m:Nat)(j:Int)(c:lC)(f:Int)(o:List aB)(M:Nat)(B:Nat->Prop)(O w:eA)(h:nE w B l m c f o M)(h0:kB O w)(W:∀g,w.1.size<=g->B g)(G:∀g,B g->O.1.size<=g)(hU:vH O)(I:0<=f)(I:f<=1000000000000)(hw0:1<=c.w)(hw1:c.w<=1000000000)(hM:M<=1000000000)(U:∀t∈o,vA t.Z<=1000000000)(Y:∀t∈o,∀p∈t.Z,p.s.size<=1000000000):
 Calls prog 313 #[.pointer (bA ⟨l,0,aA⟩),lA mA j] w fun e w'=>e=sA (pA (gL c.w f o j).2.2)/\nE w' B l m c (gL c.w f o j).1 (gL c.w f o j).2.1 M/\bB B w w':=by
 have I:=yA h;have HA:=yA W;have HA0:=yA G;clear W G;obtain⟨T,L,h,hL⟩:=h;have C:xA (gL c.w f o j=if j<1\/1000000000000-f<j then(f,o,cA) else(f+j,dE c.w (f+j) o,dA)):=rfl;have x6:cC w l 6 (lA mA f):=h.blk.cell 6;generalize gL c.w f o j=R at *;by_cases G:j<1
 .have P:xA (R=(f,o,cA)):=by show _=_;rw[C.o,Ma (Ca G)]
  clear h C;go_enter func313,ntmps313;go_wp2;go_ret;exact⟨fB (by rw[P.o]),by rw[P.o];exact I.o,bB.refl _ _⟩
 by_cases W:1000000000000-f<j
 .have P:xA (R=(f,o,cA)):=by show _=_;rw[C.o,Ma (La W)]
  clear h C;go_enter func313,ntmps313;go_wp2;go_ret;exact⟨fB (by rw[P.o]),by rw[P.o];exact I.o,bB.refl _ _⟩
 have P:xA (R=(f+j,dE c.w (f+j) o,dA)):=by show _=_;rw[C.o,Ja (fun e=>by rcases e with e|e;exact G e;exact W e)]
 clear C I;obtain⟨d,G⟩:∃d,d=f+j:=⟨_,rfl⟩
 rw[<-G]at P;have I:j<=1000000000000:=by omega
 have I:=G.symm;have hm0:0<=d:=by omega
 have hm1:d<=1000000000000:=by omega
 have I:=zA h.blk;have I:=h.ten.lt;have hB:=h0.size;have W:=h.lB;have HMB:=yA h.mB;have K:wC (·.N) o:=by rw[<-hL];exact(nY (key':=fun t:aB=>t.N) (fun p:aB×Nat=>p.1) (fun _=>rfl)).2 h.rise
 have I:bB (·=l) w (w.setCell ⟨l,6,aA⟩ (lA mA d)):=(bB.refl (·=l) w).setCell (Ca rfl) 6 _;have Z:xA (iB (w.setCell ⟨l,6,aA⟩ (lA mA d)) l (oW c d m) 154):=yA (by have:=h.blk.set 6 (lA mA d);simpa[oW]using this);have hsz:(w.setCell ⟨l,6,aA⟩ (lA mA d)).1.size=w.1.size:=by simp
 have H1:xA _:=(h.moved I Z.o).trim;have HT1:xA (bB B w (w.setCell ⟨l,6,aA⟩ (lA mA d))):=I.mono fun i _ e=>by rw[e];exact W
 have y7:(w.setCell ⟨l,6,aA⟩ (lA mA d)).cell? ⟨l,7,aA⟩=bA (.map (bA m)):=Z.o.cell 7;have b:=h.blk.free 6;have c0:xA _:=hL;have HUT:xA (∀W,bB B w W->kB O W):=fun W hW=>h0.trans (hW.below hB fun k hk hs=>by have:=HA0.o k hs;omega);have HR:=yA K;have HSL:=yA U;have HKS:=yA Y;have HUU:=yA hU;have HEX:xA _:=fun W hb=>MP l m c d W hb hm0 hm1 hw0 hw1;clear h hL K I U Y hU h0 G;go_enter func313,ntmps313;go_wp2_with(first|(at_range;refine wpList_range_own _ rfl _ 152 rfl 9 192 dM underlying152 oE m _ _ rfl H1.o.ten ?_;intro w2 I h G)|go_in);try rw[hsz]at I
 have V:=yA I;have G:xA _:=HT1.o.trans' ((bB.grown h).mono fun i _ e=>by cases e);have U:xA (TkR c d o M B l m w.1.size (Maps.has (eE (L.map fun p=>(p.1.N,eF p.2)))) w2):=by
  refine yA ⟨_,L,H1.o.keep fun g W _=>h.block g W (by simp),?_,?_⟩;rw[aGg fun t Y=>?_,c0.o];rw[ed (key:=fun p:aB×Nat=>p.1.N) (val:=fun p=>eF p.2)];rw[<-c0.o]at Y;obtain⟨p,hp,rfl⟩:=Md.1 Y;rw[aN H1.o.rise hp];rfl;show (if w.1.size<(w.setCell ⟨l,6,aA⟩ (lA mA d)).1.size then T w.1.size else aA)=aA;rw[Ja (by omega)]
 clear I h H1 Z y7 b x6 HT1 c0;generalize h:vA L=Y at *;generalize eE (L.map fun p=>(p.1.N,eF p.2))=I at *;have hrl:l≠w.1.size:=by omega
 have hrm:m≠w.1.size:=by omega
 clear h;go_loopw [31] (fun _ wr=>∃(left:Lit->Bool)(h:Nat)(D:DataW Unit),xA (wr.ranges prog 9 oE m w.1.size Y D left h)/\xA (TkR c d o M B l m w.1.size left wr)/\xA (bB B w wr)) (fun _ wr=>wr.rangeLeft m w.1.size)
 case atStart=>exact⟨_,_,_,V.o,U.o,G.o⟩
 case round=>
  obtain⟨left,h,D,E,HK,HT⟩:=hrel;clear V U G;go_wp2_with(first
   |(at_next;refine wpList_next_ranges _ rfl _ rfl 9 dM oE iA.string (fun v:iA=>v) (fun key G hk=>by obtain⟨x,h,_⟩:=aCj hk;exact⟨x,h⟩) (fun v y _=>⟨v,rfl⟩) m w.1.size Y _ _ _ rfl E.o ?_ ?_)
   |go_in)
  .intro hc0 hl0;have h:xA (nE wr B l m c d (dE c.w d o) M):=by
    obtain⟨X,L',I,Z,_⟩:=HK.o;refine yA ⟨X,L',I,?_⟩;rw[Z,yu fun n=>hl0 _]
   clear hc0 hl0;go_wp2;go_ret;exact⟨fB (by rw[P.o]),by rw[P.o];exact h.o,HT.o⟩
  .intro s v G yd yp w3 F H hlk hv hat J hlt hg3 hs3 hen;obtain⟨h,es,rfl,hss⟩:=aCj H;obtain rfl:s=h:=by simpa using es
   obtain⟨X,L',I,Z,k3⟩:=HK.o;obtain⟨p,hp,U,h,rfl⟩:=aMr (y:=(yd,yp)) I Z E.o.owns hlk hv hat;have a:bB (·=w.1.size) wr w3:=(bB.grown hg3).mono fun i _ e=>by simp only[Qa]at e;exact e.symm
   have G:=I.aside a k3 hrl hrm;have K1:=yA G;have K2:=yA Z;have K3:=yA k3;have HP:=yA hp;have HPN:=yA U;have HPT:=yA h;have RG3:=yA J;have HKEY:=yA H;have T3:xA _:=HT.o.trans (a.mono fun i _ e=>La (by omega));have HLB:xA (iB w3 l (oW c d m) 154):=G.blk;have HCN:xA _:=E.o.left_eq;have HDM:xA _:=aBy E.o.owns I.ten;have A:xA (nI c.w d (fun s_1=>(fun z=>left z&&!z.sameKey (kL s)) (kL s_1)) o=if aF (bF c.w d p.1)=dA then xE (·.N) s (nI c.w d (fun s=>left (kL s)) o) else gC (·.N) (bF c.w d p.1) (nI c.w d (fun s=>left (kL s)) o)):=by
    have:=aKu (win:=c.w) (now:=d) (left:=left) HR.o h (by rw[U];exact hlk);rw[U]at this;exact yA this
   have HRR:xA _:=J.lt;clear I Z k3 G a hp U h J H hlk hv hat hg3 hs3 HK E hss es;go_wp2_with fail;apply aC (HEX.o _ HLB.o);intro w4 G;have h:xA _:=K1.o.keep fun g W _=>G.block g W;have I:=G.size;have T4:xA _:=T3.o.trans' (bB.of G);have I:xA (w4.ranges prog 9 oE m w.1.size Y D (fun z=>left z&&!z.sameKey (kL s)) F):=NJ RG3.o (bB.of (S:=fun _=>False) G) (fun e=>e) (fun e=>e);have U:xA (Calls prog 323 #[.pointer (bA ⟨p.2,0,aA⟩),lA mA (d-c.w)] w4 fun e w'=>e=sA (.tuple #[])/\uD w' (fun g=>(fun g=>B g/\X g=bA p.2) g\/w4.1.size<=g) p.2 (bF c.w d p.1) M/\bB (fun g=>B g/\X g=bA p.2) w4 w'):=wy p.2 p.1 c.w d (d-c.w) (fun g=>B g/\X g=bA p.2) M O w4 (h.o.idx p HP.o) (HUT.o w4 T4.o) HUU.o (fun g W=>HA0.o g W.1) rfl (HSL.o p.1 HPT.o) hM (HKS.o p.1 HPT.o);clear G RG3 K1 HLB T3;go_wp2_with fail;apply aC U.o;rintro Z ⟨G,N⟩;have HI5:=yA G;have HT5:=yA N;have O:xA (dI 123 #[.pointer (bA ⟨p.2,0,aA⟩)] Z (pA (aF (bF c.w d p.1)))):=SR p.2 _ _ M Z G;have Q:xA (Z.ranges prog 9 oE m w.1.size Y D (fun z=>left z&&!z.sameKey (kL s)) F):=NJ I.o N (fun e=>by rw[h.o.tm]at e;cases e.2) (fun e=>by rw[K3.o]at e;cases e.2);have T5:xA _:=T4.o.trans' (N.mono fun i _ e=>e.1);have x7:cC Z l 7 (.map (bA m)):=(N.blk h.o.blk (fun e=>by rw[h.o.tl]at e;cases e.2)).cell 7;clear G N U I;cases hidl:aF (bF c.w d p.1) with
   |true=>
    rw[hidl]at O A;rw[Ma rfl]at A;clear hidl;go_wp2_with fail;apply lK O.o;go_wp2_with(at_delete;refine wpList_delete_ranges _ rfl _ _ 152 9 rfl 192 dM underlying152 oE m w.1.size Y _ _ _ rfl Q.o _ _ rfl HKEY.o ?_;intro U I r G u);rw[Maps.strike_twice]at r;have G:=bB.mapped u;have a0:xA (TkR c d o M B l m w.1.size (fun z=>left z&&!z.sameKey (kL s)) U):=by
     have Y:=r.owns;rw[HDM.o]at Y;refine yA ⟨X,_,iL.left (k:=s) (S:=(fun g=>B g/\X g=bA p.2)) h.o (fun g hs q hq U e=>?_) (fun g _ hs e=>by rw[e]at hs;cases hs.2) HT5.o G Y,?_,K3.o⟩;rw[hs.2]at e;have:=yS h.o.nd hq HP.o (Lc e).symm;rw[this]at U;exact U HPN.o;rw[BN (key':=fun t:aB=>t.N) (fun p:aB×Nat=>p.1) (fun _=>rfl),K2.o];exact A.o.symm
    have Y:xA _:=T5.o.trans' (G.mono fun i _ e=>(show i=m from e) ▸ HMB.o);have U:=yA r;clear r u G;go_wp2;refine⟨⟨_,_,_,_,_,_,_,_,_,_,_,_,_,_,_,_,_,_,⟨_,I,_,U.o,a0.o,Y.o⟩,rfl⟩,by rw[U.o.left_eq,HCN.o];omega⟩
   |false=>
    rw[hidl]at O A;rw[Ja (by simp)]at A;clear hidl;have a0:xA (TkR c d o M B l m w.1.size (fun z=>left z&&!z.sameKey (kL s)) Z):=by
     refine yA ⟨_,_,iL.turned (p:=p) (t':=bF c.w d p.1) h.o (fun g W=>HA.o g (Ua T4.o.size W)) HP.o rfl HT5.o HI5.o,?_,?_⟩;rw[uS (key':=fun t:aB=>t.N) (fun p:aB×Nat=>p.1) (fun _=>rfl),K2.o];exact A.o.symm;show (if w.1.size<w4.1.size then X w.1.size else bA p.2)=aA;rw[Ma (by have:=Q.o.lt;have:=HRR.o;omega)];exact K3.o
    go_wp2_with fail;apply lK O.o;go_wp2;exact⟨⟨_,F,_,Q.o,a0.o,T5.o⟩,by rw[Q.o.left_eq,HCN.o];exact hlt⟩
end
def aRa(a:List aB):Prop:=∀i(h:i<vA a),a[i].N.size<=1000000000/\vA a[i].M<=2000000/\vA a[i].Z<=2000000/\(∀j(b:j<vA a[i].M),a[i].M[j].s.size<=1000000000)/\(∀j(b:j<vA a[i].Z),a[i].Z[j].s.size<=1000000000)
def DC(a:List aB)(k:Nat):(sF (a.take k)).size<=(sF a).size:=by
 have:=iS (a.take k) (a.drop k);rw[Za]at this;rw[this,Ka];omega
def kx:∀(a:List aB),lF (a.map kW)=sF a
 |[]=>rfl
 |t::q=>by rw[Fc,lF,kx q,sF]
def SS(v m:Int)(w:eA):dI 77 #[lA mA v,lA mA m] w (pA (decide (0<=v/\v<=m))):=by
 by_cases a:0<=v
 .have e:decide (0<=v/\v<=m)=decide (v<=m):=by simp[a]
  rw[e];go_enter func77,ntmps77;go_wp2;go_ret;exact⟨rfl,rfl⟩
 have e:decide (0<=v/\v<=m)=cA:=by simp[a]
 rw[e];go_enter func77,ntmps77;go_wp2;go_ret;exact⟨rfl,rfl⟩
def nw(d f:Int)(a:iC)(y:Nat)(c:List aB)(w:eA)(G:nC w a c)(J:aRa c)(e:vA c<=2000000)(e:(sF c).size<=100000000):
 qD 180 #[lA mA d,rA #[lA mA f,oA a (vA c) y]] w (nA (xP d f c)):=by
 have F:xA (∀W,dI 77 #[lA mA d,lA mA 1000000000000000] W (pA (decide (0<=d/\d<=1000000000000000)))):=fun W=>SS _ _ W;by_cases P:¬(0<=d/\d<=1000000000000000)
 .have E:xA (xP d f c=kA):=PT fun h=>P ⟨h.1,h.2.1⟩;rw[E.o];rw[show decide (0<=d/\d<=1000000000000000)=cA from Ub P]at F;clear G J P;go_enter func180,ntmps180;go_wp2_with fail;apply lK (F.o _);go_wp2;go_ret;exact⟨rfl,vB⟩
 replace P:=Classical.not_not.1 P;rw[Ac P]at F;have HF:xA (nC w a c):=G;have HB:xA (aRa c):=J;have I:xA _:=fun W=>gP d W;have U:xA _:=fun W=>gP f W;have Y:xA (∀W,qD 145 #[lA mA (vA c:Nat)] W (nA (pB 4 (vA c:Nat)))):=fun W=>fR _ W;have e:=qB 8 d;have e:=qB 8 f;have e:=qB 4 (vA c:Nat);have e:(wN d f c).size=24+(sF c).size:=by unfold wN;rw[Ka,JO]
 have HX:xA (wN d f c=ckB++pB 8 d++pB 8 f++pB 4 (vA c:Nat)++sF c):=rfl;have HOK:xA ((∀i(h:i<vA c),aL c[i])->xP d f c=wN d f c++pB 4 (wL (wN d f c):Nat)):=fun h=>il ⟨P.1,P.2,h⟩;have HNO:xA _:=fun k(h:k<vA c)(e:¬aL c[k])=>aCi h e d f;have HCR:xA (∀W,qD 220 #[nA (wN d f c)] W (lA mA (wL (wN d f c):Nat))):=fun W=>MV _ W (by unfold maxLen;omega);have HU4:xA (∀W,qD 145 #[lA mA (wL (wN d f c):Nat)] W (nA (pB 4 (wL (wN d f c):Nat)))):=fun W=>fR _ W;have e:=qB 4 (wL (wN d f c):Nat);generalize pB 4 (wL (wN d f c):Nat)=e at *;generalize wL (wN d f c)=e at *;generalize wN d f c=SX at *;generalize xP d f c=e at *;generalize pB 8 d=N1 at *;generalize pB 8 f=N2 at *;generalize pB 4 (vA c:Nat)=N3 at *;obtain⟨e,L⟩:∃C:gB,C=ckB:=⟨_,rfl⟩
 have m:e.size=4:=by rw[L];rfl
 have Z:xA _:=L;rw[<-L]at HX;clear L;obtain⟨ti,m,ht0,ht1,ht2⟩:=BQ;have HI:xA _:=m;clear G J m;go_enter func180,ntmps180;go_wp2_with fail;apply lK (F.o _);clear F;go_upto_region 3 with fail;have X6:xA (iB (w.alloc (tA #[lA mA f,oA a (vA c) y] 41)) w.1.size #[lA mA f,oA a (vA c) y] 41):=iB.new _ _ _;have B0:xA (kB w (w.alloc (tA #[lA mA f,oA a (vA c) y] 41))):=vB;generalize w.alloc (tA #[lA mA f,oA a (vA c) y] 41)=B at *;have m:xA (∀r,kB B r->cC r w.1.size 0 (lA mA f)/\cC r w.1.size 1 (oA a (vA c) y)):=fun r h=>by
  have q:=X6.o.z h;exact⟨q.cell 0,q.cell 1⟩
 obtain⟨x0,x1⟩:=m.o B eD;go_cut [5] (fun s G=>∃g,s=oA (bA ⟨g,0,aA⟩) 4 4/\B.1.size<=g/\G.heap[g]?=bA (tA #[nA e,nA N1,nA N2,nA N3] 9 (0,0))/\kB B G)
 case first=>
  go_region_held3 (fun r=>r.cell? ⟨w.1.size,0,aA⟩=bA (lA mA f)/\r.cell? ⟨w.1.size,1,aA⟩=bA (oA a (vA c) y))
   (first|go_keep|exact m.o _ k4|exact m.o _ k3|exact m.o _ G)
   (first
    |(go_at_call 142;(fail_if_success (have q:=G));apply aC (I.o _);intro w2 J;have G:kB B w2:=(by exact oB eD.drew J))
    |(go_at_call 142;have q:=G;clear q;apply aC (U.o _);intro w3 K;have k3:kB B w3:=(by exact oB G K))
    |(go_at_call 145;apply aC (Y.o _);intro O n;have k4:kB B O:=(by exact oB k3 n)))
  all_goals(go_wp2_with fail;go_meet)
  all_goals exact⟨_,rfl,k4.size,by rw[Z.o];exact heap_alloc_new _ _,oB k4 vB⟩
 obtain⟨g0,rfl,Z,G,V⟩:=hcut;rename eA=>w5;have B5:xA _:=oB B0.o V;have HBL:xA (w5.heap[g0]?=bA (tA #[nA e,nA N1,nA N2,nA N3] 9 (0,0))/\w.1.size<=g0):=⟨G,Ua B0.o.size Z⟩
 have HK5:xA _:=(m.o w5 V).2;have y1:=HK5.o;clear x0 x1 m X6 G Z V B0 I U Y HK5;go_wp2;go_loopw [5,26] (fun G i wr=>∃(k:Nat)(m:List gB)(g T:Nat),k<=vA c/\i=lA mA k/\G=oA (bA ⟨g,0,aA⟩) (vA m) T/\vA m<=4+k/\wF m<=24+(sF (c.take k)).size/\xA (m=[e,N1,N2,N3]++(c.take k).map kW)/\xA (∀j(h:j<vA c),j<k->aL c[j])/\xA (wr.ownsRow w.1.size 9 1 (oA (bA ⟨g,0,aA⟩) (vA m) T) (vA m) (m.map iA.string))/\kB w wr) (fun _ i _=>vA c-(intOf i).toNat)
 case atStart=>
  exact⟨0,[e,N1,N2,N3],_,_,Oa _,rfl,rfl,by simp,by simp[wF,sF];omega,by show _=_;simp,fun j _ h=>absurd h (by omega),⟨rfl,La ⟨g0,4,_,rfl,HBL.o.2,HBL.o.1,Ia _,by simp[maxLen],rfl,rfl⟩⟩,B5.o⟩
 case round=>
  obtain⟨k,m,g,T,G,rfl,rfl,G,G,G,t,u,p⟩:=hrel;by_cases H:k<vA c
  .obtain ⟨b,o,a1,c1',a2,c2',rfl,hb,d0,d1,d2,d3,p1,p2⟩:=(HF.o.z p).at H;obtain⟨q1,q2,q3,q4,q5⟩:=HB.o k H;have z:xA _:=fun W(I:kB wr W)=>ob c[k] a1 a2 c1' c2' W (p1.z I) (p2.z I) q1 q2 q3 q4 q5;have Z:=DC c (k+1);have W:=RN c k H;have U:=YH c[k];have Y:(sF (c.take (k+1))).size=(sF (c.take k)).size+(kW c[k]).size:=by rw[W,Ka]
   have I:=p.size;by_cases A:aL c[k]
   .rw[aCm A]at z;have HA2:xA (∀j(h:j<vA c),j<k+1->aL c[j]):=fun j h I=>by
     rcases Gc j k with I|I;exact t.o j h I;obtain rfl:j=k:=by omega
     exact A
    have E2:xA (m++[kW c[k]]=[e,N1,N2,N3]++(c.take (k+1)).map kW):=by
     show _=_;rw[G.o,Pa H,Ld,Nd];rfl
    have X:(kW c[k]).toList.isEmpty=cA:=by
     rw[ByteArray.toList_eq];cases h:(kW c[k]).data.toList with
     |nil=>have e:(kW c[k]).size=0:=by rw[ByteArray.size,<-Qg,h];rfl
           omega
     |cons x l=>rfl
    have R:((kW c[k]).toList==[])=cA:=by simpa using X
    have HSS:xA ((sF (c.take (k+1))).size=(sF (c.take k)).size+(kW c[k]).size/\(sF (c.take (k+1))).size<=(sF c).size):=⟨Y,Z⟩
    clear A t W U Y Z q1 q2 q3 q4 q5 p1 p2;generalize kW c[k]=S at *;generalize c[k].N=nm at *;generalize c[k].L=li at *;generalize vA c[k].M=m1 at *;generalize vA c[k].Z=m2 at *;go_wp2_with fail;apply aC (z.o _ vB);intro O n;have e:w.1.size<=O.1.size:=by have:=n.size;simp at this;omega
    have v:xA (O.ownsRow w.1.size 9 1 (oA (bA ⟨g,0,aA⟩) (vA m) T) (vA m) (m.map iA.string)/\kB w O):=⟨jC (jC u.o vB) n,oB (oB p vB) n⟩
    clear n u p z d0 d1 d2 d3;go_wp2_with(at_builtin;refine wpList_append_lies _ rfl _ _ _ rfl w.1.size 9 ti _ 1 16 underlying204 HI.o ht0 ht1 ht2 rfl (by omega) (oA (bA ⟨g,0,aA⟩) (vA m) T) (vA m) (m.map iA.string) rfl (by exact jC v.o.1 vB) ⟨O.1.size,0,aA⟩ 1 1 [nA S] rfl rfl (by exact eA.news_of_block (heap_alloc_new _ _)) (by simp[iA.oneCell']) (by omega) (by simp[maxLen];omega) (by omega) (by simp;omega) (O.1.size+1) (by simp) ?_;intro g5 e w5 I M hat5 hlt5);have hgw:=qI v.o.1 g rfl;have hB5:=(oB v.o.2 vB).grown M (by simp;omega) (fun q hq=>by simp[iA.ownBlock]at hq;omega);have hxs:m.map iA.string++[iA.string S]=(m++[S]).map iA.string:=by simp
    have N:vA (m++[S])=vA m+1:=by simp
    have hsm:wF (m++[S])=wF m+S.size:=by rw[nH];simp[wF]
    rw[hxs,<-N]at I;exact⟨⟨k+1,m++[S],g5,e,by omega,by go_num,by rw[N],by rw[N];omega,by have:=HSS.o;omega,E2.o,HA2.o,I,hB5⟩,by simp[intOf];omega⟩
   .rw[PY A]at z;have E:xA _:=HNO.o k H A;have D:xA _:=z;have X:ByteArray.empty.toList.isEmpty=dA:=by rw[ByteArray.toList_eq];rfl
    have R:(ByteArray.empty.toList==[])=dA:=by rw[ByteArray.toList_eq];rfl
    clear A t W U Y Z q1 q2 q3 q4 q5 p1 p2 u z;obtain⟨e,U⟩:∃E:gB,E=kA:=⟨_,rfl⟩
    rw[<-U]at D X R E;have e:xA _:=U;clear U;generalize c[k].N=nm at *;generalize c[k].L=li at *;generalize vA c[k].M=m1 at *;generalize vA c[k].Z=m2 at *;go_wp2_with fail;apply aC (D.o _ vB);intro O n;have I:xA _:=oB (oB p vB) n;clear n d0 d1 d2 d3 D;go_wp2;go_ret;exact⟨by rw[E.o,e.o];rfl,I.o⟩
  have E2:xA (lF m=SX):=by
   show _=_;rw[G.o,Ra (by omega),zF,kx,HX.o];simp[lF,Wa]
  have Q:=fun j h=>t.o j h (by omega);have I:xA _:=HOK.o Q;have N:=DC c k;obtain⟨h,U,e⟩:=oG u.o;have G:xA (qD 137 #[oA (bA ⟨g,0,aA⟩) (vA m) T] wr (nA (lF m))):=lI g (vA m) T m wr rfl e U h (by omega) (by omega);rw[E2.o]at G;clear u e Q t;go_wp2_with fail;apply aC G.o;intro w2 J;have e:xA _:=oB p J;clear J;go_wp2_with fail;apply aC (HCR.o _);intro w3 K;have h:xA _:=oB e.o K;clear K;go_wp2_with fail;apply aC (HU4.o _);intro O n;have e:xA _:=oB h.o n;clear n;go_wp2;go_ret;exact⟨by rw[I.o];rfl,e.o⟩
def tL{C:eA->Prop}{w:eA}{cs:Array iA}{t:TypeId}(k:∀W,kB w W->iB W w.1.size cs t->W.1.size=w.1.size+1->C W):C (w.alloc (tA cs t)):=
 k _ vB (iB.new w _ _) (by simp)
def aNk{C:eA->Prop}{w:eA}{O:Nat}{a b d c u:iA}{t:TypeId}(h:iB w O #[a,b,d,c] t)(k:∀W,iB W O #[a,b,u,c] t->bB (·=O) w W->C W):C (w.setCell ⟨O,2,aA⟩ u):=
 k _ (by have:=h.set 2 u;simpa using this) ((bB.refl (·=O) w).setCell (Ca rfl) 2 u)
def aNl{C:eA->Prop}{w:eA}{O:Nat}{a b c d u:iA}{t:TypeId}(h:iB w O #[a,b,c,d] t)(k:∀W,iB W O #[a,b,c,u] t->bB (·=O) w W->C W):C (w.setCell ⟨O,3,aA⟩ u):=
 k _ (by have:=h.set 3 u;simpa using this) ((bB.refl (·=O) w).setCell (Ca rfl) 3 u)
def mC.turned{S:Nat->Prop}{w c:eA}{B:Nat}{a:iC}{l:List dB}(h:mC w B a l)(q:bB S w c)(m:∀g,B<=g->¬S g):mC c B a l:=by
 rcases h with h|⟨g,o,b,t,e,d,f,h⟩;exact Ca h;have k:=q.block g (zA f) (m g d);have n:∀j,c.cell? ⟨g,j,aA⟩=w.cell? ⟨g,j,aA⟩:=fun j=>eA.cell?_of_block k;exact La ⟨g,o,b,t,e,d,k.trans f,fun i p=>by simp only[n];exact h i p⟩
def iO(a b:iC)(ca cb:Nat)(N:oC)(w:eA)(d:eB w a N.d.fs)(h:vA N.d.fs<=1048576)(c:nC w b N.ts)(l:vA N.ts<=2000000)(Z:∀t∈N.ts,vA t.M<=2000000/\vA t.Z<=2000000):
 Calls prog 14 #[rA (dC a ca b cb N)] w fun e w'=>∃a' Q b' R,e=sA (rA (dC a' Q b' R N))/\wG w' (fun x=>w.1.size<=x) a' N.d.fs/\nO w' (fun x=>w.1.size<=x) b' N.ts/\kB w w':=by
 unfold dC;have O:=yA (fun W(l:kB w W)=>ye a ca N.d W (d.z l) h);have HT:=yA c;have o:=yA Z;clear d c Z;go_enter func14,ntmps14;go_wp2_with fail;refine(O.o _ (oB vB vB)).mono ?_;rintro e w1 ⟨a',Q,rfl,d,J⟩;have l:=yA (((iB.new w _ _).alloc _).z J);have G:=yA ((iB.new (w.alloc _) _ _).z J);simp only[eA.size_alloc]at G d;have I:=yA (oB (oB vB vB) J);have h:=J.size;simp only[eA.size_alloc]at h;have U:=yA d;have Y:=l.o.n14;obtain⟨s,u,q,r,y,z,A,B,D,E,f,m,n,p⟩:=l.o.frees;clear J d O;go_upto_region 2 with fail;refine aBc (C:=fun W=>Code.wp prog _ _ _ W) l.o ?_;intro w2 d h;have R2:=yA (h.blk G.o (by omega));have F2:=yA (U.o.turned h (fun x hx _ e=>by omega));have J:=h.size;have B2:=yA (I.o.trans (h.below (by have:=I.o.size;omega) (fun k hk e=>by omega)));clear s u q r y z A B D E f m n p l G U I h Y;have Y:=d.n14;replace d:=yA d;have l:w.1.size<w2.1.size:=by omega
 go_wp2;obtain⟨i3,h,hq0,hq1,hq2⟩:=info_parts oj;have HI3:=yA h;clear h Y;go_loopw [3,15] (fun h i wr=>∃(j:Nat)(v:iA),j<=vA N.ts/\i=lA mA j/\v=h/\xA (gT wr w2.1.size 85 v j (N.ts.take j))/\xA (kB w2 wr)/\w2.1.size<wr.1.size) (fun _ i _=>vA N.ts-(RowKit.intOf i).toNat)
 case atStart=>exact⟨0,_,Oa _,rfl,rfl,⟨fun _=>0,[],eA.ownsRow_made w2 #[] 0 (Ia _) (by simp[maxLen]) (by simp),by simp,fun _ _=>rfl,fun i h=>absurd h (by simp)⟩,vB,by simp⟩
 case round=>
  obtain⟨j,v,G,rfl,rfl,I,F,G⟩:=hrel;by_cases L:j<vA N.ts
  .obtain ⟨bb,oo,a1,c1,a2,c2,rfl,hbb,k0,k1,k2,k3,p1,p2⟩:=((HT.o.z B2.o).z F.o).at (i:=j) L;have c0:=o.o _ (Gb L);obtain⟨t,c⟩:∃t,t=N.ts[j]:=⟨_,rfl⟩
   have HE:=yA (show N.ts.take (j+1)=N.ts.take j++[t] by rw[c,Pa L]);rw[<-c]at k0 k1 k2 k3 p1 p2 c0;clear c;go_upto_region 6 with fail;refine tL (C:=fun W=>Code.wp prog _ _ _ W) ?_;intro w3 a0 X3 H;obtain⟨G,c,w4,o,J,U,O⟩:=aDr w3 a1 c1 t.M (p1.z a0) c0.1;have Z:=yA o;have x2:cC w3 wr.1.size 2 (oA a1 (vA t.M) c1):=X3.cell 2;have l:wr.1.size<w3.1.size:=by omega
   have X4:=yA (X3.z U);have y2:cC w4 wr.1.size 2 (oA a1 (vA t.M) c1):=X4.o.cell 2;have q:=X4.o.free 2;have HZ:=yA H;have hz3':wr.1.size<=w3.1.size:=by omega
   have hz4:=U.size;have P4:=yA p2;have B4:=yA (oB a0 U);have O4:=yA J;have Q4:=yA O;clear O k0 k1 k2 k3 p1 p2 o J U X3 H a0;go_upto_region 7 with(at_builtin;refine Lib.wpList_append_run _ rfl _ _ _ _ rfl _ _ rfl rfl _ _ Z.o ?_)
   refine aNk (C:=fun W=>Code.wp prog _ _ _ W) X4.o ?_;intro J X5 T5;have H:=HZ.o;have o:=T5.size;have B5:=yA (B4.o.trans (T5.below (by omega) (fun k hk e=>by omega)));have M5:=yA (O4.o.turned T5 (fun g V e=>by omega));have hM:∀g o,G=bA ⟨g,o,aA⟩->g<J.1.size:=fun g o e=>by have:=Q4.o g o e;omega
   obtain⟨q2,d2,w6,o,O,K,_⟩:=aDs J a2 c2 t.Z (P4.o.z B5.o) c0.2;have U:=yA o;have x3:cC J wr.1.size 3 (oA a2 (vA t.Z) c2):=X5.cell 3;have hn2:wr.1.size<J.1.size:=by omega
   have X6:=yA (X5.z K);have y3:cC w6 wr.1.size 3 (oA a2 (vA t.Z) c2):=X6.o.cell 3;have r:=X6.o.free 3;have hz6:=K.size;have B6:=yA (oB B5.o (K.mono (by omega)));have M6:=yA (M5.o.z K);have O6:=yA O;have HM:=yA hM;clear x2 y2 q l o O K X5 hM T5 X4 O4 Q4 P4 M5 Z B4 B5 H;go_upto_region 8 with(at_builtin;refine Lib.wpList_append_run _ rfl _ _ _ _ rfl _ _ rfl rfl _ _ U.o ?_)
   refine aNl (C:=fun W=>Code.wp prog _ _ _ W) X6.o ?_;intro P l o;have H:=HZ.o;have O:=o.size;have B7:=yA (B6.o.trans (o.below (by omega) (fun k hk e=>by omega)));have M7:=yA (M6.o.turned o (fun g V e=>by omega));have S7:=yA (O6.o.turned o (fun g V e=>by omega));obtain⟨av,cv,rfl⟩:=I.o.row;obtain⟨T,ys,h0,i0,O,Z⟩:=I.o;have hyk:vA ys=j:=by have:=Kd List.length i0;simp at this;omega
   have V1:=yA (jC h0 B7.o);have V2:=yA i0;have V3:=yA O;have V4:=yA Z;have hob:=yA (fun g V=>h0.lt g V);have z0:cC P wr.1.size 0 (nA t.N):=l.cell 0;have z1:cC P wr.1.size 1 (lA mA t.L):=l.cell 1;have z2:cC P wr.1.size 2 (oA G (vA t.M) c):=l.cell 2;have z3:cC P wr.1.size 3 (oA q2 (vA t.Z) d2):=l.cell 3;have HYK:=yA hyk;clear x3 y3 r hn2 X6 l o M6 O6 U B6 h0 i0 O Z hyk H;go_wp2_with(at_builtin;refine wpList_append_lies _ rfl _ _ _ rfl w2.1.size 85 i3 _ 4 72 underlying39 HI3.o hq0 hq1 hq2 rfl (by omega) (oA av j cv) j (dF ys) rfl (by exact V1.o.alloc _) ⟨P.1.size,0,aA⟩ 1 1 [nA t.N,lA mA t.L,oA G (vA t.M) c,oA q2 (vA t.Z) d2] rfl rfl (by have:=eA.news_of_block (cs:=#[nA t.N,lA mA t.L,oA G (vA t.M) c,oA q2 (vA t.Z) d2]) (t:=85) (fr:=(0,0)) (heap_alloc_new P (tA #[nA t.N,lA mA t.L,oA G (vA t.M) c,oA q2 (vA t.Z) d2] 85));simpa using this) (by simp[iA.oneCell']) (by omega) (by simp[maxLen];omega) (by omega) (by simp;omega) (P.1.size+1) (by simp) ?_;intro l o w8 e0 G U O);have H:=HZ.o;have O:=hob.o;have Z:((iA.slice av j cv).ownBlock=bA l/\l<wr.1.size)\/P.1.size<=l:=by
    rcases U with h|h;exact Ca ⟨h,(O _ h).2⟩;exact La (by omega)
   have h:∀g,g<P.1.size->(iA.slice av j cv).ownBlock≠bA g->w8.heap[g]?=P.heap[g]?:=fun g V U=>by
    rw[(bB.grown G).block g (by simp;omega) U];exact vB.block g V
   refine⟨⟨j+1,(oA (bA ⟨l,0,aA⟩) (j+1) o),by omega,by go_num,rfl,?_,?_,?_⟩,by simp[RowKit.intOf];omega⟩
   .show gT _ _ _ _ _ _;rw[HE.o];exact gT.snoc (wr:=wr) (w4:=P) (M:=J.1.size) (v:=oA av j cv) (T:=T) (ys:=ys) (t:=t) e0 V2.o HYK.o V3.o V4.o (by omega) (by omega)
     (fun g V _ U=>(h g (by omega) U).trans (B7.o.block g V))
     (fun g V o=>h g o (fun e=>by have:=(O _ e).2;omega))
     (M7.o.mono (by omega)) HM.o S7.o Z (by omega) (by omega)
   .exact (F.o.trans (B7.o.mono (by omega))).trans ((vB.mono (by omega)).trans ((bB.grown G).below (by simp;omega) (fun k hk e=>by have:=(O _ e).1;omega)))
   have:=G.size;simp at this;omega
  obtain rfl:j=vA N.ts:=by omega
  have X:=I.o;rw[Rb]at X;obtain⟨b',R,rfl⟩:=X.row;have J:=yA ((X.own rfl).toA (Ia _));have O:=yA (F2.o.z F.o);have G:=yA (oB B2.o F.o);have Y:=(d.o.z F.o).n14;obtain⟨s,u,q,r,y,z,A,B,D,E,f,m,n,p⟩:=(d.o.z F.o).frees;obtain⟨U,Y,Z,r3,r4,r5,r6,r7,r8,r9,d,h,m,o⟩:=(R2.o.z F.o).n14;obtain⟨g0,g1,g2,g3,g4,l,l,l,l,l,l,l,l,l⟩:=(R2.o.z F.o).frees;clear I X;go_wp2;refine bodyPost_ret (v:=rA #[oA a' (vA N.d.fs) Q,lA mA N.d.c,lA mA N.d.k,lA mA N.d.cr,lA mA N.d.fl,pA N.d.dn,lA mA N.l.first,lA mA N.l.last,lA mA N.l.size,lA mA N.now,oA b' (vA N.ts) R,lA mA N.lsn,pA N.deg,pA N.up]) (by simp[results,results14,go_sem,U,Y,Z,r3,r4,r5,r6,r7,r8,r9,d,h,m,o]) rfl ?_;refine bB.end2 (S:=fun x=>x=w.1.size\/x=w.1.size+1) (C:=fun W=>∃a1 c1 d c,Ending.returned (rA #[oA a' (vA N.d.fs) Q,lA mA N.d.c,lA mA N.d.k,lA mA N.d.cr,lA mA N.d.fl,pA N.d.dn,lA mA N.l.first,lA mA N.l.last,lA mA N.l.size,lA mA N.now,oA b' (vA N.ts) R,lA mA N.lsn,pA N.deg,pA N.up])=Ending.returned (rA #[oA a1 (vA N.d.fs) c1,lA mA N.d.c,lA mA N.d.k,lA mA N.d.cr,lA mA N.d.fl,pA N.d.dn,lA mA N.l.first,lA mA N.l.last,lA mA N.l.size,lA mA N.now,oA d (vA N.ts) c,lA mA N.lsn,pA N.deg,pA N.up])/\wG W (fun x=>w.1.size<=x) a1 N.d.fs/\nO W (fun x=>w.1.size<=x) d N.ts/\kB w W) wr (by
   repeat (with_reducible first|exact bB.refl _ _|refine bB.setCell ?_ (Ca (by first|exact Ca rfl|exact La rfl)) _ _)) ?_
  intro w6 c;exact⟨_,_,_,_,rfl,(O.o.turned c (fun x hx _ e=>by omega)).mono (fun x hx=>by omega),(J.o.turned c (fun x hx _ e=>by omega)).mono (fun x hx=>by omega),G.o.trans (c.below (by have:=G.o.size;omega) (fun k hk e=>by omega))⟩
def IL(a b n:iC)(ca cb g:Nat)(N:oC)(K:mE)(L:kG)(w:eA)(c:eB w a N.d.fs)(m:vA N.d.fs<=1048576)(d:nC w b N.ts)(I:vA N.ts<=2000000)(i:∀t∈N.ts,vA t.M<=2000000/\vA t.Z<=2000000)(q:N.up=dA):
 Calls prog 62 #[rA (dC a ca b cb N),rA #[oA n (vA K.fs) g,lA mA K.c,lA mA K.k,lA mA K.cr,lA mA K.fl,pA K.dn],rA #[lA mA L.first,lA mA L.last,lA mA L.size]] w fun e w'=>∃o l,e=sA (rA #[oA n (vA K.fs) g,lA mA K.c,lA mA K.k,lA mA K.cr,lA mA K.fl,pA K.dn,lA mA L.first,lA mA L.last,lA mA L.size,lA mA N.now,oA o (vA N.ts) l,lA mA N.lsn,pA dA,pA (!K.dn)])/\nO w' (fun x=>w.1.size<=x) o N.ts/\kB w w':=by
 unfold dC;have A:=yA (fun W(h:kB w W)=>iO a b ca cb N W (c.z h) m (d.z h) I i);unfold dC at A;have B:=yA q;clear c d i q;go_enter func62,ntmps62;go_wp2_with fail;refine(A.o _ (oB (oB (oB vB vB) vB) vB)).mono ?_;rintro e w1 ⟨a1,c1,c,d,rfl,_,p,f⟩;have u:=yA (((((iB.new w _ _).alloc _).alloc _).alloc _).z f);have G:=yA ((((iB.new (w.alloc _) _ _).alloc _).alloc _).z f);have H:=yA (((iB.new ((w.alloc _).alloc _) _ _).alloc _).z f);have E:=yA ((iB.new (((w.alloc _).alloc _).alloc _) _ _).z f);have z:=yA (oB (oB (oB (oB vB vB) vB) vB) f);have J:=f.size;simp only[eA.size_alloc]at G H E J;have Y:=yA p;obtain⟨I,J,U,Z,o4,o5,o6,o7,o8,o9,M,O,P,s⟩:=u.o.n14;have V:=u.o.frees;clear f p A;go_upto_region 2 with fail;refine aDb (C:=fun W=>Code.wp prog _ _ _ W) u.o ?_;intro h D m;have j:=m.blk G.o (by omega);have y:=m.blk H.o (by omega);have F:=m.blk E.o (by omega);have X:=yA (z.o.trans (m.below z.o.size (fun k hk e=>by omega)));have T3:=yA (Y.o.turned m (fun x r _ e=>by simp only[eA.size_alloc]at r;omega));obtain⟨I,J,U,Z,o4,o5,o6,o7,o8,o9,M,O,P,s⟩:=D.n14;have V:=D.frees;obtain⟨I,J,O,Z,r4,r5,r6,r7,r8,r9,Q,R,T,U⟩:=F.n14;have x3x:=F.frees;have x0:cC h (w.1.size+1) 0 (oA n (vA K.fs) g):=j.cell 0;have x1:cC h (w.1.size+1) 1 (lA mA K.c):=j.cell 1;have x2:cC h (w.1.size+1) 2 (lA mA K.k):=j.cell 2;have x3:cC h (w.1.size+1) 3 (lA mA K.cr):=j.cell 3;have x4:cC h (w.1.size+1) 4 (lA mA K.fl):=j.cell 4;have x5:cC h (w.1.size+1) 5 (pA K.dn):=j.cell 5;have y0:cC h (w.1.size+1+1) 0 (lA mA L.first):=y.cell 0;have y1:cC h (w.1.size+1+1) 1 (lA mA L.last):=y.cell 1;have y2:cC h (w.1.size+1+1) 2 (lA mA L.size):=y.cell 2;rw[B.o]at s;clear D j y F m u G H E z Y;cases hdn:K.dn
 all_goals(
  rw[hdn]at x5
  go_wp2
  refine bodyPost_ret (v:=rA #[oA n (vA K.fs) g,lA mA K.c,lA mA K.k,lA mA K.cr,lA mA K.fl,pA _,lA mA L.first,lA mA L.last,lA mA L.size,lA mA N.now,oA c (vA N.ts) d,lA mA N.lsn,pA dA,pA _]) (by simp[results,results62,go_sem,I,J,O,Z,r4,r5,r6,r7,r8,r9,Q,R,T,U];exact⟨rfl,rfl⟩) rfl ?_;refine bB.end2 (S:=fun x=>x=w.1.size\/x=w.1.size+1+1+1) (C:=fun W=>∃o l,_=Ending.returned (rA #[oA n (vA K.fs) g,lA mA K.c,lA mA K.k,lA mA K.cr,lA mA K.fl,_,lA mA L.first,lA mA L.last,lA mA L.size,lA mA N.now,oA o (vA N.ts) l,lA mA N.lsn,pA dA,_])/\nO W (fun x=>w.1.size<=x) o N.ts/\kB w W) h (by
   repeat (with_reducible first|exact bB.refl _ _|refine bB.setCell ?_ (Ca (by first|exact Ca rfl|exact La rfl)) _ _)) ?_
  intro c Z;exact⟨_,_,by rw[hdn];rfl,(T3.o.turned Z (fun x r _ e=>by simp only[eA.size_alloc]at r;omega)).mono (fun x r=>by simp only[eA.size_alloc]at r;omega),X.o.trans (Z.below X.o.size (fun k hk e=>by omega))⟩)
section
open Go.Maps
structure WQ(w W:World)(B K:Nat→Prop)(v3 v4:Value)(ps:List gB)(rs:List vE)(l m:Nat)(c:lC)(now:Int)(ts:List aB)(M:Nat):Prop where
 led:nE W K l m c now ts M
 new:∀g,W.1.size≤g→K g
 sub:∀g,K g→B g
 row3:W.ownsRow w.1.size 9 1 v3 (vA ps) (ps.map iA.string)
 row4:W.ownsRow w.1.size 71 4 v4 (vA rs) (IA rs)
 off3:∀g,v3.ownBlock=bA g→¬K g∧v4.ownBlock≠bA g
 off4:∀g,v4.ownBlock=bA g→¬K g
 turn:bB B w W
section
variable {w W W':eA} {B K:Nat→Prop} {v3 v4:iA} {ps:List gB} {rs:List vE} {l m:Nat} {c:lC} {now:Int} {ts ts':List aB} {M M' g n cap:Nat}
theorem WQ.z(h:WQ w W B K v3 v4 ps rs l m c now ts M)(a:kB W W'):WQ w W' B K v3 v4 ps rs l m c now ts M:=
 ⟨h.led.z a,fun g b=>h.new g (Ua a.size b),h.sub,jC h.row3 a,jC h.row4 a,h.off3,h.off4,h.turn.trans' (bB.of a)⟩
theorem WQ.judged(h:WQ w W B K v3 v4 ps rs l m c now ts M)(b:nE W' K l m c now ts' M')(a:bB K W W'):WQ w W' B K v3 v4 ps rs l m c now ts' M':=
 ⟨b,fun g d=>h.new g (Ua a.size d),h.sub,a.row h.row3 fun g e=>(h.off3 g e).1,a.row h.row4 h.off4,h.off3,h.off4,h.turn.trans' (a.mono fun i _ e=>h.sub i e)⟩
theorem WQ.led'(h:WQ w W B K v3 v4 ps rs l m c now ts M){v:iA}(f:∀g,v.ownBlock=bA g->¬K g)(d:bB (fun i=>w.1.size<=i/\v.ownBlock=bA i) W W'):nE W' (fun g=>K g/\g<W.1.size\/W'.1.size<=g) l m c now ts M:=
 h.led.re fun g b a=>⟨d.block g b fun e=>f g e.2 a,Ca ⟨a,b⟩⟩
theorem WQ.app3(h:WQ w W B K v3 v4 ps rs l m c now ts M){x:gB}(p:W'.ownsRow w.1.size 9 1 (oA (bA ⟨g,0,aA⟩) (vA ps+1) cap) (vA ps+1) (ps.map iA.string++[nA x]))(j:bB (fun i=>w.1.size<=i/\v3.ownBlock=bA i) W W')(a:v3.ownBlock=bA g\/W.1.size<=g)(o:∀g,w.1.size<=g->B g):WQ w W' B (fun g=>K g/\g<W.1.size\/W'.1.size<=g) (.slice (bA ⟨g,0,aA⟩) (vA (ps++[x])) cap) v4 (ps++[x]) rs l m c now ts M:=by
 have r:=j.size;have n:=h.turn.size;have f:=nG p g rfl;have k:=fun q e=>nG h.row4 q e;refine⟨h.led' (fun g e=>(h.off3 g e).1) j,fun g f=>La f,fun g f=>f.elim (fun e=>h.sub g e.1) fun e=>o g (by omega),by rw[show(ps++[x]).length=vA ps+1 by simp,Ld];exact p,j.row h.row4 fun q e d=>(h.off3 q d.2).2 e,fun q e=>?_,fun q e b=>?_,h.turn.trans' (j.mono fun i _ e=>o i e.1)⟩
 .obtain rfl:g=q:=by simpa[iA.ownBlock]using e
  rcases a with a|a;exact ⟨fun b=>b.elim (fun e=>(h.off3 _ a).1 e.1) fun e=>by omega,(h.off3 _ a).2⟩;exact ⟨fun b=>b.elim (fun e=>by omega) fun e=>by omega,fun e=>by have:=k _ e;omega⟩
 exact b.elim (fun d=>h.off4 q e d.1) fun d=>by have:=k _ e;omega
theorem WQ.app4(h:WQ w W B K v3 v4 ps rs l m c now ts M){x:vE}(p:W'.ownsRow w.1.size 71 4 (oA (bA ⟨g,0,aA⟩) (vA rs+1) cap) (vA rs+1) (IA rs++[lA mA x.K,nA x.T,nA x.X,lA mA x.U]))(j:bB (fun i=>w.1.size<=i/\v4.ownBlock=bA i) W W')(a:v4.ownBlock=bA g\/W.1.size<=g)(o:∀g,w.1.size<=g->B g):WQ w W' B (fun g=>K g/\g<W.1.size\/W'.1.size<=g) v3 (.slice (bA ⟨g,0,aA⟩) (vA (rs++[x])) cap) ps (rs++[x]) l m c now ts M:=by
 have s:=j.size;have n:=h.turn.size;have d:=nG p g rfl;have k:=fun q e=>nG h.row3 q e;have r:IA (rs++[x])=IA rs++[lA mA x.K,nA x.T,nA x.X,lA mA x.U]:=by simp[IA]
 refine⟨h.led' h.off4 j,fun g d=>La d,fun g d=>d.elim (fun e=>h.sub g e.1) fun e=>o g (by omega),j.row h.row3 fun q e b=>(h.off3 q e).2 b.2,by rw[show(rs++[x]).length=vA rs+1 by simp,r];exact p,fun q e=>⟨fun f=>f.elim (fun b=>(h.off3 q e).1 b.1) fun b=>by have:=k _ e;omega,fun b=>?_⟩,fun q e f=>?_,h.turn.trans' (j.mono fun i _ e=>o i e.1)⟩
 .obtain rfl:g=q:=by simpa[iA.ownBlock]using b
  rcases a with a|a;exact (h.off3 _ e).2 a;have:=k _ e;omega
 obtain rfl:g=q:=by simpa[iA.ownBlock]using e
 rcases a with a|a
 .exact f.elim (fun e=>h.off4 _ a e.1) fun e=>by omega
 exact f.elim (fun e=>by omega) fun e=>by omega
end
end
