import Derived.Test.YtbfnhppoecdnoaaGreatDoorJ21
import Derived.Test.YtbfnhppoecdnoaaGreatDoorJ41
set_option maxRecDepth 100000
set_option maxHeartbeats 8000000
set_option linter.defProp false
open Option renaming some->bA,none->aA
open ByteArray renaming empty->kA
open Bool renaming true->dA,false->cA
open List renaming length->vA
namespace Go.Proofs.YtbfnhppoecdnoaaGreatDoor
open Value renaming string->nA,int->lA,tuple->uA,slice->oA,agg->rA,bool->pA,pointer->qA
open IntKind renaming i64->mA
open Go renaming World->eA,Value->iA
open Obj renaming cells->tA
open RowKit renaming Below->fA
open Go.RowKit Tryz
section
variable {s:gB} {p0:Option Nat} {k b:Nat}
theorem aRw(m:s.size<=1048576)(j:∀b,p0=bA b->b<=s.size)(a:(GB s p0 k).2=bA b):∃(d f:gB)(g i:Int),lR (GB s p0 k).2=(b:Int)/\xA (∀W,dI 53 #[nA s,lA mA (b:Nat),lA mA 1] W (uA #[nA d,lA mA g]))/\xA (∀W,dI 53 #[nA s,lA mA g,lA mA 2] W (uA #[nA f,lA mA i]))/\xA (xD (GB s p0 (k+1)).1=xD (GB s p0 k).1++[nA d,nA f]/\vA (GB s p0 (k+1)).1=vA (GB s p0 k).1+1/\lR (GB s p0 (k+1)).2=i):=by
 obtain⟨_,_,_,l⟩:=fh k b a;have:=l j;refine⟨_,_,_,_,by rw[a];rfl,fun W=>aR s 1 (bA b) W (by omega) (fun b h=>by cases h;omega) (by omega),fun W=>aR s 2 _ W (by omega) (fun b h=>by have:=IN h;omega) (by omega),?_⟩;rw[GB,fY a,fg];exact⟨by simp[xD,GB],by simp[GB],rfl⟩
theorem aSy(o:s.size<=1048576)(l:∀b,p0=bA b->b<=s.size)(d:(WL s p0 k).2=bA b):∃(g j:Int)(a:Nat)(c:Option Nat),lR (WL s p0 k).2=(b:Int)/\xA (∀W,dI 52 #[nA s,lA mA (b:Nat),lA mA 1] W (uA #[lA mA (a:Nat),lA mA (lR c)]))/\xA (∀W,dI 52 #[nA s,lA mA (lR (GB s c a).2),lA mA 8] W (uA #[lA mA g,lA mA j]))/\a<256/\xA (∀b,c=bA b->b<=s.size)/\xA ((WL s p0 (k+1)).1=(WL s p0 k).1++[⟨(GB s c a).1,g⟩]/\lR (WL s p0 (k+1)).2=j):=by
 obtain⟨_,_,_,m⟩:=aOn k b d;have:=m l;have i:∀q,(OM s (bA b)).2=bA q->q<=s.size:=fun q h=>iY h;have p:=TL s 1 (bA b);refine⟨nF (yg s (bA b)).1,_,(OM s (bA b)).1,(OM s (bA b)).2,by rw[d];rfl,fun W=>?_,fun W=>pP s 8 _ W (by omega) (fun q h=>?_) (by omega),by rw[OM];omega,i,?_⟩
 .have:=pP s 1 (bA b) W (by omega) (fun b h=>by cases h;omega) (by omega);rw[tG (by omega)]at this;exact this
 .obtain ⟨_,_,_,n⟩:=fh _ q h;have:=n i;omega
 rw[WL,fY d,lSm];exact⟨rfl,rfl⟩
end
structure GS(w W:World)(cs:Array Value):Prop where
 R:iB W (w.1.size+1) cs 60
 Z:iB W w.1.size #[lA mA 0,nA kA,nA kA,lA mA 0,oA aA 0 0] 60
 N:kB w W
section
variable {w W W':eA} {cs:Array iA}
theorem GS.start(w:eA):GS w ((w.alloc (tA #[lA mA 0,nA kA,nA kA,lA mA 0,oA aA 0 0] 60)).alloc (tA #[lA mA 0,nA kA,nA kA,lA mA 0,oA aA 0 0] 60)) #[lA mA 0,nA kA,nA kA,lA mA 0,oA aA 0 0]:=
 ⟨by have:=iB.new (w.alloc (tA #[lA mA 0,nA kA,nA kA,lA mA 0,oA aA 0 0] 60)) #[lA mA 0,nA kA,nA kA,lA mA 0,oA aA 0 0] 60;simpa using this,(iB.new _ _ _).alloc _,oB vB vB⟩
theorem GS.set(h:GS w W cs)(i:Nat)(v:iA):GS w (W.setCell ⟨w.1.size+1,i,aA⟩ v) (cs.setIfInBounds i v):=
 ⟨h.R.set i v,h.Z.but ((tD.refl (w.1.size+1) W).setCell i v) (by omega),h.N.setCell (by simp) _⟩
theorem GS.z(h:GS w W cs)(a:kB W W'):GS w W' cs:=⟨h.R.z a,h.Z.z a,oB h.N a⟩
end
def qS(s:gB)(w:eA)(hs:s.size<=1048576):
 Calls prog 18 #[nA s] w fun e w'=>tO s w e w':=by
 have K:s.size<=1000000000:=by omega
 have H0:=yA (fun W=>pP s 1 (bA 0) W K (fun q h=>by cases h;omega) (by omega));have hk:(CU s).1<256:=by have:=TL s 1 (bA 0);rw[CU];omega
 rw[show gY s 1 (bA 0)=CU s from rfl,tG (by omega)]at H0;have hpK:∀q,(CU s).2=bA q->q<=s.size:=fun q h=>iY (s:=s) (n:=1) (p:=bA 0) h;have r:=yA (fun W(h:∀q,(JX s).2=bA q->q<=s.size)=>pP s 2 (JX s).2 W K (fun q hq=>by have:=h q hq;omega) (by omega));have hcc:(lqC s).1<65536:=by have:=TL s 2 (JX s).2;rw[lqC];omega
 rw[show gY s 2 (JX s).2=lqC s from rfl,tG (by omega)]at r;have HPC:xA (∀q,(lqC s).2=bA q->q<=s.size):=fun q h=>iY h;have HS:xA (fp s=if (CU s).1=1 then WL s (lqC s).2 (lqC s).1 else([],(JX s).2)):=by show _=_;rw[fp]
 have HEN:xA (∀W P cap,jI W P (fp s).1->qD 54 #[rA #[lA mA ((CU s).1:Nat),nA (IQ s).1,nA (CW s).1,lA mA (JX s).1,.slice P (vA (fp s).1) cap]] W (nA (vN (lRq s)))):=fun W P cap h=>sw (lRq s) P cap W h (by have:=aKc s;omega) (PJ s).1 (PJ s).2;have HY:=yA (fun u h2=>yn (s:=s) u h2);have U:=yA (fun h=>aFw (s:=s) h);rw[show lRq s=⟨((CU s).1:Nat),(IQ s).1,(CW s).1,(JX s).1,(fp s).1⟩ from rfl]at HY U HEN;have A1:xA (qU ((CU s).1:Nat)=dA/\(∀W,dI 53 #[nA s,lA mA (lR (CU s).2),lA mA 1] W (uA #[nA (IQ s).1,lA mA (lR (IQ s).2)]))\/qU ((CU s).1:Nat)=cA/\(IQ s).1=kA/\(IQ s).2=(CU s).2):=by
  by_cases h:qU ((CU s).1:Nat)=dA
  .have e:IQ s=lJ s 1 (CU s).2:=by rw[IQ];exact Ma h
   exact Ca ⟨h,fun W=>by rw[e];exact aR s 1 (CU s).2 W K (fun q h=>by have:=hpK q h;omega) (by omega)⟩
  have e:IQ s=(kA,(CU s).2):=by rw[IQ];exact Ja h
  exact La ⟨by simpa using h,by rw[e],by rw[e]⟩
 have hpT:∀q,(IQ s).2=bA q->q<=s.size:=fun q h=>by
  rw[IQ]at h;split at h;exact IN h;exact hpK q h
 have A2:xA (oU ((CU s).1:Nat)=dA/\(∀W,dI 53 #[nA s,lA mA (lR (IQ s).2),lA mA 2] W (uA #[nA (CW s).1,lA mA (lR (CW s).2)]))\/oU ((CU s).1:Nat)=cA/\(CW s).1=kA/\(CW s).2=(IQ s).2):=by
  by_cases h:oU ((CU s).1:Nat)=dA
  .have e:CW s=lJ s 2 (IQ s).2:=by rw[CW];exact Ma h
   exact Ca ⟨h,fun W=>by rw[e];exact aR s 2 (IQ s).2 W K (fun q h=>by have:=hpT q h;omega) (by omega)⟩
  have e:CW s=(kA,(IQ s).2):=by rw[CW];exact Ja h
  exact La ⟨by simpa using h,by rw[e],by rw[e]⟩
 have hpM:∀q,(CW s).2=bA q->q<=s.size:=fun q h=>by
  rw[CW]at h;split at h;exact IN h;exact hpT q h
 have hpN:∀q,(JX s).2=bA q->q<=s.size:=fun q h=>by
  rw[JX]at h;split at h;exact iY h;exact hpM q h
 replace r:=yA (fun W=>r.o W hpN);have A3:xA (zU ((CU s).1:Nat)=dA/\(∀W,dI 52 #[nA s,lA mA (lR (CW s).2),lA mA 8] W (uA #[lA mA (JX s).1,lA mA (lR (JX s).2)]))\/zU ((CU s).1:Nat)=cA/\(JX s).1=0/\(JX s).2=(CW s).2):=by
  by_cases h:zU ((CU s).1:Nat)=dA
  .have e:JX s=(nF (gY s 8 (CW s).2).1,(gY s 8 (CW s).2).2):=by rw[JX];exact Ma h
   exact Ca ⟨h,fun W=>by rw[e];exact pP s 8 (CW s).2 W K (fun q h=>by have:=hpM q h;omega) (by omega)⟩
  have e:JX s=(0,(CW s).2):=by rw[JX];exact Ja h
  exact La ⟨by simpa using h,by rw[e],by rw[e]⟩
 unfold tO;clear hpK hpT hpM hpN;generalize aG s=D at *;generalize vN ⟨((CU s).1:Nat),(IQ s).1,(CW s).1,(JX s).1,(fp s).1⟩=EB at *;generalize lqC s=X4 at *;generalize fp s=X5 at *;generalize CU s=X0 at *;generalize IQ s=X1 at *;generalize CW s=X2 at *;generalize JX s=X3 at *;obtain⟨k,p0⟩:=X0;obtain⟨T,p1⟩:=X1;obtain⟨M,p2⟩:=X2;obtain⟨N,p3⟩:=X3;obtain⟨n,Q⟩:=X4;obtain⟨S,p5⟩:=X5;dsimp only at *;have hk1:∀j:Nat,(((k:Nat):Int)==(j:Int))=decide (k=j):=fun j=>by rw[Qb];simp;omega
 go_enter func18,ntmps18;go_wp2_with fail;apply lK (H0.o _);have G:xA (GS w ((w.alloc (tA #[lA mA 0,nA ⟨#[]⟩,nA ⟨#[]⟩,lA mA 0,oA aA 0 0] 60)).alloc (tA #[lA mA 0,nA ⟨#[]⟩,nA ⟨#[]⟩,lA mA 0,oA aA 0 0] 60)) #[lA mA 0,nA kA,nA kA,lA mA 0,oA aA 0 0]):=yA (GS.start w);clear H0;generalize (w.alloc (tA #[lA mA 0,nA ⟨#[]⟩,nA ⟨#[]⟩,lA mA 0,oA aA 0 0] 60)).alloc (tA #[lA mA 0,nA ⟨#[]⟩,nA ⟨#[]⟩,lA mA 0,oA aA 0 0] 60)=W at *;have c0:W.cell? ⟨w.1.size+1,0,aA⟩=bA (lA mA 0):=G.o.R.cell 0;have c1:=G.o.R.free 0;go_upto_region 4 with fail;replace G:=yA (G.o.set 0 (lA mA k));clear c0 c1;generalize W.setCell ⟨w.1.size+1,0,aA⟩ (lA mA k)=V at *;go_upto_region 4 with fail;go_cut [5,32,47] (fun A _ b o=>A=lA mA k/\b=pA (qU k)/\o=V)
 case first=>
  go_wp2;all_goals go_meet
  all_goals(unfold qU;simp_all)
 obtain⟨rfl,rfl,rfl⟩:=hcut;go_upto_if 47 with fail;go_cut [5,6] (fun A P o=>A=lA mA k/\P=lA mA (lR p1)/\GS w o #[lA mA k,nA T,nA kA,lA mA 0,oA aA 0 0])
 case first=>
  rcases A1.o with⟨I,r⟩|⟨I,rfl,rfl⟩
  .rw[I];replace r:=yA r;go_wp2_with fail;apply lK (r.o _);have c0:=G.o.R.cell 1;have c1:=G.o.R.free 1;go_wp2;go_meet;exact⟨rfl,rfl,G.o.set 1 (nA T)⟩
  rw[I];go_wp2;go_meet;exact⟨rfl,rfl,G.o⟩
 clear G;obtain⟨rfl,rfl,G⟩:=hcut;replace G:=yA G;rename eA=>V;go_upto_region 8 with fail;go_cut [5,62] (fun A b o=>A=lA mA k/\b=pA (oU k)/\o=V)
 case first=>
  go_wp2;all_goals go_meet
  all_goals(unfold oU;simp_all)
 obtain⟨rfl,rfl,rfl⟩:=hcut;go_upto_if 62 with fail;go_cut [5,6] (fun A P o=>A=lA mA k/\P=lA mA (lR p2)/\GS w o #[lA mA k,nA T,nA M,lA mA 0,oA aA 0 0])
 case first=>
  rcases A2.o with⟨I,r⟩|⟨I,rfl,rfl⟩
  .rw[I];replace r:=yA r;go_wp2_with fail;apply lK (r.o _);have c0:=G.o.R.cell 2;have c1:=G.o.R.free 2;go_wp2;go_meet;exact⟨rfl,rfl,G.o.set 2 (nA M)⟩
  rw[I];go_wp2;go_meet;exact⟨rfl,rfl,G.o⟩
 clear G;obtain⟨rfl,rfl,G⟩:=hcut;replace G:=yA G;rename eA=>V;go_upto_region 12 with fail;go_cut [5,77] (fun A b o=>A=lA mA k/\b=pA (zU k)/\o=V)
 case first=>
  go_wp2;all_goals go_meet
  all_goals(unfold zU;simp_all)
 obtain⟨rfl,rfl,rfl⟩:=hcut;go_upto_if 77 with fail;go_cut [5,6] (fun A P o=>A=lA mA k/\P=lA mA (lR p3)/\GS w o #[lA mA k,nA T,nA M,lA mA N,oA aA 0 0])
 case first=>
  rcases A3.o with⟨I,r⟩|⟨I,rfl,rfl⟩
  .rw[I];replace r:=yA r;go_wp2_with fail;apply lK (r.o _);have c0:=G.o.R.cell 3;have c1:=G.o.R.free 3;go_wp2;go_meet;exact⟨rfl,rfl,G.o.set 3 (lA mA N)⟩
  rw[I];go_wp2;go_meet;exact⟨rfl,rfl,G.o⟩
 clear G;obtain⟨rfl,rfl,G⟩:=hcut;replace G:=yA G;rename eA=>V;go_upto_region 16 with fail;go_cut [5,88] (fun A b o=>A=lA mA k/\b=pA (decide (k=1))/\o=V)
 case first=>
  go_wp2;go_meet;exact⟨rfl,by rw[<-hk1 1];rfl,rfl⟩
 obtain⟨rfl,rfl,rfl⟩:=hcut;go_upto_if 88 with fail;go_cut [5,6,13,14,15] (fun A _ _ _ _ o=>A=lA mA k/\∃v,GS w o #[lA mA k,nA T,nA M,lA mA N,v]/\CS o (w.1.size+1+1) 67 v (vA S) S)
 case first=>
  by_cases u:k=1
  .have hS:=HS.o;rw[Ma u]at hS;replace hS:xA (WL s Q n=(S,p5)):=yA hS.symm;rw[Ac u];clear u HS;go_wp2_with fail;refine wE (r.o _) ?_;go_wp2_with fail;go_loopw [6,15] (fun at_ i wr=>∃(j:Nat)(v:iA),j<=n/\i=lA mA j/\at_=lA mA (lR (WL s Q j).2)/\xA (GS w wr #[lA mA k,nA T,nA M,lA mA N,v])/\xA (CS wr (w.1.size+1+1) 67 v (vA (WL s Q j).1) (WL s Q j).1)) (fun _ i _=>n-(intOf i).toNat)
   case atStart=>exact⟨0,_,Oa _,rfl,rfl,G.o,CS.nil _ _ _⟩
   case round=>
    obtain⟨j,v,hj,rfl,rfl,HG,HV⟩:=hrel;clear G;by_cases y:j<n/\∃p,(WL s Q j).2=bA p
    .obtain ⟨J,p,hp⟩:=y;obtain⟨bi,zB,L,E,hv,P1,P2,hn1,hq0,F⟩:=aSy hs HPC.o hp;have hm:=ZB (g:=lSm s) (p0:=Q) j;change (vA (WL s Q j).1)<=j at hm;rw[hv];rename eA=>t;clear hv hp;go_wp2_with fail;refine wE (P1.o _) ?_;go_upto_block 2 with fail;have X0:=yA (iB.new t #[oA aA 0 0,lA mA 0] 67);have B0:=yA (yG t (tA #[oA aA 0 0,lA mA 0] 67));generalize t.alloc (tA #[oA aA 0 0,lA mA 0] 67)=w0 at *;go_cut [6] (fun a o=>a=lA mA (lR (GB s E L).2)/\∃C,iB o t.1.size #[C,lA mA 0] 67/\o.ownsRow (t.1.size+1) 116 2 C (vA (GB s E L).1) (xD (GB s E L).1)/\kB t o)
     case first=>
      go_wp2_with fail;go_loopw [6,19] (fun at_ i wr=>∃(z:Nat)(C:iA),z<=L/\i=lA mA z/\at_=lA mA (lR (GB s E z).2)/\xA (iB wr t.1.size #[C,lA mA 0] 67)/\xA (wr.ownsRow (t.1.size+1) 116 2 C (vA (GB s E z).1) (xD (GB s E z).1))/\xA (kB t wr)) (fun _ i _=>L-(intOf i).toNat)
      case atStart=>exact⟨0,_,Oa _,rfl,rfl,X0.o,eA.ownsRow_nil _ _ _ _,B0.o⟩
      case round=>
       obtain⟨z,C,hk1,rfl,rfl,X,R,BB⟩:=hrel;by_cases y:z<L/\∃q,(GB s E z).2=bA q
       .obtain ⟨hlt1,b,hq⟩:=y;obtain⟨tx,va,z3,z4,hv,Q1,Q2,F1⟩:=aRw hs hq0.o hq;have hm1:=ZB (g:=fg s) (p0:=E) z;change (vA (GB s E z).1)<=z at hm1;rw[hv];have c1:wr.cell? ⟨t.1.size,0,aA⟩=bA C:=X.o.cell 0;have hw:=zA X.o;clear hv hq;iterate 2 (go_wp2_with fail;first|with_reducible refine wE (Q1.o _) ?_|with_reducible refine wE (Q2.o _) ?_)
        go_wp2_with(at_builtin;refine eO rfl _ _ rfl underlying65 aJm rfl (by omega) (by omega) (v:=C) rfl R.o rfl rfl rfl (by simp[iA.oneCell']) (by omega) (by omega) ?_;intro g5 cap5 w5 HO Y _;have X5:=yA (Y.o.blk X.o (fun e=>by omega));have s5:=X5.o.cell 0;have m:=X5.o.free 0);obtain⟨x1,x2,x3⟩:=BO X.o Y.o HO.o (Nat.lt_succ_self _) 0;exact⟨⟨z+1,_,by omega,by go_num,by rw[F1.o.2.2],yA (by simpa using x1),yA (by rw[F1.o.1,F1.o.2.1];exact x2),yA (BB.o.trans (x3.below (by omega) fun i hi e=>by omega))⟩,by simp[intOf];omega⟩
       obtain ⟨he,B⟩:=aKa y hk1;change GB s E z=GB s E L at he;change ¬z<L\/z<L/\lR (GB s E L).2 = -1 at B;rw[he]at R |-
       clear y he;rcases B with B|⟨B,u⟩
       .go_wp2;go_meet;exact⟨rfl,C,X.o,R.o,BB.o⟩
       have H1:=yA u;rw[u];clear u;go_wp2;go_meet;exact⟨by rw[H1.o],C,X.o,R.o,BB.o⟩
     obtain⟨rfl,C,H,hR,hB⟩:=hcut;rename eA=>w1;obtain⟨a1,d1,rfl⟩:=pQ hR;obtain⟨T',ys,hV1,hV2,hV3,hV4⟩:=HV.o;have hww:=zA HG.o.R;go_wp2_with fail;refine wE (P2.o _) ?_;obtain⟨x0,x1⟩:=H.c2;have l:=H.free 1;generalize (GB s E L).1=ls at *;go_upto_region 35 with fail;have ht:=(bB.refl (·=t.1.size) w1).setCell (Ca rfl) 1 (lA mA bi);have X1:=yA (H.set 1 (lA mA bi));have R1:=yA (ht.row hR (fun b hb e=>by have:=(hR.lt b hb).1;omega));have B1:=yA (hB.trans (ht.below hB.size fun i hi e=>by omega));clear x0 x1 l H hR hB X0 B0 ht;generalize w1.setCell ⟨t.1.size,1,aA⟩ (lA mA bi)=w2 at *;clear hq0;have hw2:=zA X1.o;have G:=yA (HG.o.z B1.o);have HR:=yA (jC hV1 B1.o);have HVS:=yA (⟨hV2,hV3,hV4,hV1.lt⟩:_/\_/\_/\_);have x0:w2.cell? ⟨t.1.size,0,aA⟩=bA (oA a1 (vA ls) d1):=X1.o.cell 0;have x1:w2.cell? ⟨t.1.size,1,aA⟩=bA (lA mA bi):=X1.o.cell 1;have y4:=G.o.R.cell 4;clear hV1 hV2 hV3 hV4;go_wp2_with(at_builtin;refine eO rfl _ _ rfl underlying58 oh rfl (by omega) (by omega) (v:=v) rfl HR.o rfl rfl rfl (by simp[iA.oneCell']) (by omega) (by omega) ?_;intro g5 cap5 w5 HO Y HA;have S5:=yA (Y.o.blk G.o.R (fun e=>by omega));have s5:=S5.o.cell 4;have m:=S5.o.free 4);obtain⟨z1,z2,z3⟩:=BO G.o.R Y.o HO.o (Nat.lt_succ_self _) 4;obtain⟨C,v2,v3,v4⟩:=HVS.o;have hk5:=fun g(B:g<w2.1.size)(h:w.1.size+1+1<=g)(hne:v.ownBlock≠bA g)=>z3.block g B (fun e=>e.elim (fun e=>by omega) fun e=>hne e.2);refine⟨⟨j+1,_,by omega,by go_num,by rw[F.o.2],⟨by simpa using z1,z3.blk G.o.Z (fun e=>by omega),G.o.N.trans (z3.below (by omega) fun i hi e=>by omega)⟩,?_⟩,by simp[intOf];omega⟩;rw[F.o.1,Kb];exact CS.snoc (wr:=t) (w4:=w2) (v:=v) (T:=T') (ys:=ys) (x:=⟨ls,bi⟩) z2 C (by rw[<-C,Xa]) v2 v3 (by omega) (fun g B hb hne=>(hk5 g (by omega) hb hne).trans (B1.o.block g B)) (fun g B hg4=>hk5 g hg4 (by omega) (fun e=>by have:=(v4 _ e).2;omega)) (uE.mono (eM R1.o) (by omega)) (rl R1.o) (HA.o.elim (fun h=>Ca ⟨h,(v4 _ h).2⟩) fun h=>La (by omega)) (by omega)
    obtain ⟨he,B⟩:=aKa y hj;change WL s Q j=WL s Q n at he;change ¬j<n\/j<n/\lR (WL s Q n).2 = -1 at B;rw[he]at HV |-
    rw[hS.o]at HV;clear y he;rcases B with B|⟨B,u⟩
    .go_wp2;go_meet;exact⟨rfl,v,HG.o,HV.o⟩
    rw[u];clear u;go_wp2;go_meet;exact⟨rfl,v,HG.o,HV.o⟩
  have hS:=HS.o;rw[Ja u]at hS;cases hS
  rw[Ub u];go_wp2;go_meet;exact⟨rfl,_,G.o,CS.nil _ _ _⟩
 clear G HS HPC r A1 A2 A3;obtain⟨rfl,v,H,hR⟩:=hcut;rename eA=>w1;obtain⟨ra,rc,rfl⟩:=hR.row;have X:=yA H;have O:=yA (hR.own rfl);have hc:s.toList.isEmpty=dA/\D=(⟨0,kA,kA,0,[]⟩,cA)\/s.toList.isEmpty=cA/\((EB.toList==s.toList)=dA/\D=(⟨k,T,M,N,S⟩,dA)\/(EB.toList==s.toList)=cA/\D=(⟨0,kA,kA,0,[]⟩,cA)):=by
  have hb:(s.toList==[])=decide (s.size=0):=by rw[ByteArray.toList_eq,aQ];cases s.data.toList<;>simp
  by_cases b0:s.size=0
  .exact Ca ⟨by simpa[b0]using hb,U.o (fun h=>h.1 b0)⟩
  refine La ⟨by simpa[b0]using hb,?_⟩;by_cases a0:EB=s
  .exact Ca ⟨by simp[a0],HY.o b0 a0⟩
  refine La ⟨Yc.2 fun h=>a0 (iZ ?_),U.o (fun h=>a0 h.2)⟩;simpa[ByteArray.toList_eq]using eq_of_beq h
 obtain⟨x0,x1,x2,x3,x4⟩:=H.R.c5;obtain⟨y0,y1,y2,y3,y4⟩:=H.Z.c5;have f:=H.Z.free;have J:=H.N.size;have ht:=fun(W:eA)(a b c d e:iA)=>((((((tD.refl w.1.size W).setCell 0 a).setCell 1 b).setCell 2 c).setCell 3 d).setCell 4 e)
 have Y:=yA ht;clear H hR HY U ht;rcases hc with⟨u,rfl⟩|⟨u,⟨h2,rfl⟩|⟨h2,rfl⟩⟩
 all_goals
  go_wp2_with(go_at_call 54;apply aC (HEN.o _ ra rc O.o.P);intro w3 hb3;replace X:=yA (X.o.z hb3);replace O:=yA (O.o.z hb3);clear x0 x1 x2 x3 x4 y0 y1 y2 y3 y4 f J;obtain⟨x0,x1,x2,x3,x4⟩:=X.o.R.c5;obtain⟨y0,y1,y2,y3,y4⟩:=X.o.Z.c5;have f:=X.o.Z.free;have J:=X.o.N.size;clear hb3);refine bodyPost_ret (v:=?_) (by simp[results,results18,go_sem,y0,y1,y2,y3,y4];rfl) rfl ?_;first
   |exact⟨ra,⟨rc,rfl⟩,(O.o.but (Y.o _ _ _ _ _ _) (by omega)).mono (by omega),X.o.N.trans ((bB.but (Y.o _ _ _ _ _ _)).below J fun i hi e=>by omega)⟩
   |exact⟨aA,⟨0,rfl⟩,Ca rfl,X.o.N.trans ((bB.but (Y.o _ _ _ _ _ _)).below J fun i hi e=>by omega)⟩
def aUq(n:Nat)(b a:eA)(K:mE)(L:kG)(s:iA):Prop:=
 ∃(P D B:Nat)(v:iA),s=qA (bA ⟨P,0,aA⟩)/\n+4<=P/\n+4<=B/\KH a P D L/\uC a B D K.fs K.c K.k K.cr K.fl K.dn v/\kB b a
def iB.four{w:eA}{b:Nat}{a c d e:iA}{t:TypeId}(h:iB w b #[a,c,d,e] t):w.cell? ⟨b,0,aA⟩=bA a/\w.cell? ⟨b,1,aA⟩=bA c/\w.cell? ⟨b,2,aA⟩=bA d/\w.cell? ⟨b,3,aA⟩=bA e:=by
 simp[h.cell]
def uC.set_low{w:eA}{B D:Nat}{f:List cB}{c k a d:Int}{b:Bool}{v:iA}(h:uC w B D f c k a d b v){P:Nat}(n:P<B)(j:Nat)(x:iA):uC (w.setCell ⟨P,j,aA⟩ x) B D f c k a d b v:=by
 have i:=(gE.refl (fun k=>k=P) w).setCell (g:=P) rfl j x;have m:=h.from';refine⟨h.from',h.blk.keeps i (by omega),LJ h.row i (fun g l e=>?_),h.apart⟩;have:=qI h.row g l;omega
def aQl{w:eA}{P D:Nat}{L:kG}{b c d e:iA}(h:iB w P #[b,c,d,e] 247):
 KH ((((w.setCell ⟨P,0,aA⟩ (qA (bA ⟨D,0,aA⟩))).setCell ⟨P,1,aA⟩ (lA mA L.first)).setCell ⟨P,2,aA⟩ (lA mA L.last)).setCell ⟨P,3,aA⟩ (lA mA L.size)) P D L:=by
 have a:=(((h.set 0 (qA (bA ⟨D,0,aA⟩))).set 1 (lA mA L.first)).set 2 (lA mA L.last)).set 3 (lA mA L.size);show iB _ _ _ _;simpa using a
def tS{w:eA}{b g j:Nat}{a:Array iA}{t:TypeId}{x:iA}(h:iB w b a t)(c:b≠g):iB (w.setCell ⟨g,j,aA⟩ x) b a t:=(fA.heap_setCell _ _ _ b (fun e=>c e)).trans h
def iB.setO{w:eA}{b g:Nat}{a:Array iA}{t:TypeId}(h:iB w b a t)(c:b≠g)(j:Nat)(x:iA):iB (w.setCell ⟨g,j,aA⟩ x) b a t:=tS h c
def KP(n P D:Nat)(a L:kG)(W:eA):Prop:=KH W P D a/\iB W (n+1) #[lA mA L.first,lA mA L.last,lA mA L.size] 38
def KP.z{n P D:Nat}{a L:kG}{W b:eA}(h:KP n P D a L W)(c:kB W b):KP n P D a L b:=⟨h.1.z c,h.2.z c⟩
def KP.drew{n P D:Nat}{a L:kG}{W:eA}(h:KP n P D a L W):KP n P D a L W.drew:=h.z eD.drew
def KP.set{n P D g j:Nat}{a L:kG}{W:eA}{x:iA}(h:KP n P D a L W)(b:P≠g)(c:n+1≠g):KP n P D a L (W.setCell ⟨g,j,aA⟩ x):=⟨tS h.1 b,tS h.2 c⟩
def KP.cells{n P D:Nat}{e L:kG}{W:eA}(h:KP n P D e L W):W.cell? ⟨P,0,aA⟩=bA (qA (bA ⟨D,0,aA⟩))/\W.cell? ⟨P,1,aA⟩=bA (lA mA e.first)/\W.cell? ⟨P,2,aA⟩=bA (lA mA e.last)/\W.cell? ⟨P,3,aA⟩=bA (lA mA e.size)/\W.cell? ⟨n+1,0,aA⟩=bA (lA mA L.first)/\W.cell? ⟨n+1,1,aA⟩=bA (lA mA L.last)/\W.cell? ⟨n+1,2,aA⟩=bA (lA mA L.size):=by
 obtain⟨a,b,c,d⟩:=h.1.cells;obtain⟨x,y,z⟩:=h.2.three;exact⟨a,b,c,d,x,y,z⟩
def dP(n:Nat)(g:eA)(a b c d e f h i j:iA):eA:=
 (((((((((g.setCell ⟨n+1+1,0,aA⟩ a).setCell ⟨n+1+1,1,aA⟩ b).setCell ⟨n+1+1,2,aA⟩ c).setCell ⟨n+1+1,3,aA⟩ d).setCell ⟨n+1+1,4,aA⟩ e).setCell ⟨n+1+1,5,aA⟩ f).setCell ⟨n+1+1+1,0,aA⟩ h).setCell ⟨n+1+1+1,1,aA⟩ i).setCell ⟨n+1+1+1,2,aA⟩ j)
def KT{n:Nat}{a:eA}{j k l m o p f h i v0 v1 v2 v3 v4 v5 x0 x1 x2:iA}{t u:TypeId}(e:iB a (n+1+1) #[j,k,l,m,o,p] t)(d:iB a (n+1+1+1) #[f,h,i] u):
 iB (dP n a v0 v1 v2 v3 v4 v5 x0 x1 x2) (n+1+1) #[v0,v1,v2,v3,v4,v5] t/\iB (dP n a v0 v1 v2 v3 v4 v5 x0 x1 x2) (n+1+1+1) #[x0,x1,x2] u:=by
 constructor;exact tS (tS (tS (GI e) (by omega)) (by omega)) (by omega);have b:=(((((((d.setO (g:=n+1+1) (by omega) 0 v0).setO (g:=n+1+1) (by omega) 1 v1).setO (g:=n+1+1) (by omega) 2 v2).setO (g:=n+1+1) (by omega) 3 v3).setO (g:=n+1+1) (by omega) 4 v4).setO (g:=n+1+1) (by omega) 5 v5).set 0 x0).set 1 x1;have c:=b.set 2 x2;show iB (dP n a v0 v1 v2 v3 v4 v5 x0 x1 x2) _ _ _;simpa[dP]using c
def EJ{n B:Nat}{w a:eA}{b c d e f g i j k:iA}(h:fA B w a)(l:B<=n):fA B w (dP n a b c d e f g i j k):=by
 unfold dP;iterate 9 (refine fA.setCell ?_ (by show B<=_;first|exact(by simp only;omega)|omega) _)
 exact h
def SE{n B:Nat}{c:eA}{a:iC}{b:List cB}{d e f g i j k l m:iA}(h:pG c B a b)(o:n+4<=B):pG (dP n c d e f g i j k l m) B a b:=by
 unfold dP;iterate 9 (refine pG.set_below ?_ (by show _<B;first|exact(by simp only;omega)|omega) _)
 exact h
def np(a:iC)(J:Nat)(K:mE)(L:kG)(p:gB)(o:Int)(w:eA)(h:oL w)(m:eB w a K.fs)(c:CO K.fs)(hp:p.size<=1900000):
 Calls prog 215 #[rA #[oA a (vA K.fs) J,lA mA K.c,lA mA K.k,lA mA K.cr,lA mA K.fl,pA K.dn],rA #[lA mA L.first,lA mA L.last,lA mA L.size],nA p,lA mA o] w fun e w'=>
  ∃a' k,e=.returned (uA #[rA #[.slice a' (vA (rE K L p o).1.fs) k,lA mA (rE K L p o).1.c,lA mA (rE K L p o).1.k,lA mA (rE K L p o).1.cr,lA mA (rE K L p o).1.fl,pA (rE K L p o).1.dn],rA #[lA mA (rE K L p o).2.1.first,lA mA (rE K L p o).2.1.last,lA mA (rE K L p o).2.1.size],lA mA (rE K L p o).2.2])/\
   pG w' w.1.size a' (rE K L p o).1.fs/\kB w w':=by
 have G:xA (eB w a K.fs):=m;have k:=c.len;have HS:xA _:=c;have HPW:xA (oL w):=h;clear m c h;go_enter func215,ntmps215;go_upto_region 1 with fail;obtain⟨hA,hL,Z,c,k⟩:=YP (w:=w) (x:=#[oA a (vA K.fs) J,lA mA K.c,lA mA K.k,lA mA K.cr,lA mA K.fl,pA K.dn]) (tx:=37) (y:=#[lA mA L.first,lA mA L.last,lA mA L.size]) (ty:=38) (z:=#[oA aA 0 0,lA mA 0,lA mA 0,lA mA 0,lA mA 0,pA cA]) (tz:=37) (u:=#[lA mA 0,lA mA 0,lA mA 0]) (tu:=38) eD;have m:((((w.alloc (tA #[oA a (vA K.fs) J,lA mA K.c,lA mA K.k,lA mA K.cr,lA mA K.fl,pA K.dn] 37)).alloc (tA #[lA mA L.first,lA mA L.last,lA mA L.size] 38)).alloc (tA #[oA aA 0 0,lA mA 0,lA mA 0,lA mA 0,lA mA 0,pA cA] 37)).alloc (tA #[lA mA 0,lA mA 0,lA mA 0] 38)).1.size=w.1.size+4:=by simp
 generalize ((((w.alloc (tA #[oA a (vA K.fs) J,lA mA K.c,lA mA K.k,lA mA K.cr,lA mA K.fl,pA K.dn] 37)).alloc (tA #[lA mA L.first,lA mA L.last,lA mA L.size] 38)).alloc (tA #[oA aA 0 0,lA mA 0,lA mA 0,lA mA 0,lA mA 0,pA cA] 37)).alloc (tA #[lA mA 0,lA mA 0,lA mA 0] 38))=N at *;have HBX:xA (∀r,kB N r->iB r w.1.size #[oA a (vA K.fs) J,lA mA K.c,lA mA K.k,lA mA K.cr,lA mA K.fl,pA K.dn] 37/\iB r (w.1.size+1) #[lA mA L.first,lA mA L.last,lA mA L.size] 38/\iB r (w.1.size+1+1) #[oA aA 0 0,lA mA 0,lA mA 0,lA mA 0,lA mA 0,pA cA] 37/\iB r (w.1.size+1+1+1) #[lA mA 0,lA mA 0,lA mA 0] 38/\kB w r):=fun r h=>⟨hA.z h,hL.z h,Z.z h,c.z h,oB k h⟩
 have Y:xA (∀r,kB N r->cC r w.1.size 0 (oA a (vA K.fs) J)/\cC r w.1.size 1 (lA mA K.c)/\cC r w.1.size 2 (lA mA K.k)/\cC r w.1.size 3 (lA mA K.cr)/\cC r w.1.size 4 (lA mA K.fl)/\cC r w.1.size 5 (pA K.dn)/\cC r (w.1.size+1) 0 (lA mA L.first)/\cC r (w.1.size+1) 1 (lA mA L.last)/\cC r (w.1.size+1) 2 (lA mA L.size)):=fun r h=>by
  obtain⟨I,a1,a2,O,T,U⟩:=(hA.z h).six;obtain⟨W,b1,b2⟩:=(hL.z h).three;exact⟨I,a1,a2,O,T,U,W,b1,b2⟩
 have HF4:xA _:=fun r(h:kB N r)=>G.o.z (oB k h);have O:xA _:=m;clear hA hL Z c k m;go_cut [11] (fun s r=>aUq w.1.size N r K L s)
 case first=>
  go_region_held3 (fun r=>r.cell? ⟨w.1.size,0,aA⟩=bA (oA a (vA K.fs) J)/\r.cell? ⟨w.1.size,1,aA⟩=bA (lA mA K.c)/\r.cell? ⟨w.1.size,2,aA⟩=bA (lA mA K.k)/\r.cell? ⟨w.1.size,3,aA⟩=bA (lA mA K.cr)/\r.cell? ⟨w.1.size,4,aA⟩=bA (lA mA K.fl)/\r.cell? ⟨w.1.size,5,aA⟩=bA (pA K.dn)/\r.cell? ⟨w.1.size+1,0,aA⟩=bA (lA mA L.first)/\r.cell? ⟨w.1.size+1,1,aA⟩=bA (lA mA L.last)/\r.cell? ⟨w.1.size+1,2,aA⟩=bA (lA mA L.size))
   (exact Y.o _ (by repeat (first|with_reducible refine fA.setCell ?_ (by exact Ia _) _|with_reducible exact eD|with_reducible refine oB ?_ vB|with_reducible refine fA.drew ?_|exact eD.drew|refine oB ?_ (by assumption))))
   (first
   |(go_at_call 184;refine(ZN a J K.fs K.c K.k K.cr K.fl K.dn _ (HF4.o _ (by repeat (first|with_reducible exact eD|with_reducible refine oB ?_ vB|with_reducible refine fA.drew ?_|exact eD.drew|refine oB ?_ (by assumption)))) (by omega)).mono ?_;rintro e k ⟨D,v,rfl,m,I⟩;(try (have C:iB k N.1.size _ _:=vU I;obtain⟨G,G,G,G⟩:=C.four;have b:=C.free 0;have d:=C.free 1;have f:=C.free 2;have g:=C.free 3))))
  all_goals(go_wp2_with fail;go_meet)
  .have U:=O.o;have G:=oB eD.drew I;have A:kB N (k.alloc (tA #[qA (bA ⟨D,0,aA⟩),lA mA L.first,lA mA L.last,lA mA L.size] 247)):=oB G vB;refine⟨k.1.size,D,N.1.size,v,rfl,?_,?_,heap_alloc_new _ _,m.z vB,A⟩
   .have:=G.size;omega
   omega
  have U:=O.o;have C:iB k N.1.size _ _:=vU I;have A:kB N ((((k.setCell ⟨N.1.size,0,aA⟩ (qA (bA ⟨D,0,aA⟩))).setCell ⟨N.1.size,1,aA⟩ (lA mA L.first)).setCell ⟨N.1.size,2,aA⟩ (lA mA L.last)).setCell ⟨N.1.size,3,aA⟩ (lA mA L.size)):=by
   iterate 4 (refine fA.setCell ?_ (by exact Ia _) _)
   exact oB (oB eD vB).drew I
  refine⟨N.1.size,D,N.1.size+1,v,rfl,by omega,by omega,aQl C,?_,A⟩;have G:uC k (N.1.size+1) D K.fs K.c K.k K.cr K.fl K.dn v:=by
   have U:=m;simpa using U
  exact(((G.set_low (by omega) 0 _).set_low (by omega) 1 _).set_low (by omega) 2 _).set_low (by omega) 3 _
 obtain⟨P,D,B,v,rfl,hP,hB,hwr,U,W⟩:=hcut;obtain⟨hA,hL,Z,c,hbl⟩:=HBX.o _ W;clear Y;rename eA=>Y;obtain⟨T,G,rfl,m⟩:=cH U.row;have HM:xA (uC Y B D K.fs K.c K.k K.cr K.fl K.dn (oA T (vA K.fs) G)/\iB Y w.1.size #[oA a (vA K.fs) J,lA mA K.c,lA mA K.k,lA mA K.cr,lA mA K.fl,pA K.dn] 37/\iB Y (w.1.size+1+1) #[oA aA 0 0,lA mA 0,lA mA 0,lA mA 0,lA mA 0,pA cA] 37/\iB Y (w.1.size+1+1+1) #[lA mA 0,lA mA 0,lA mA 0] 38/\kB w Y/\pG Y B T K.fs):=⟨U,hA,Z,c,hbl,m⟩
 have HKP:xA (KP w.1.size P D L L Y):=⟨hwr,hL⟩
 have HB5:xA _:=W;clear hwr U hA hL Z c hbl m W;go_wp2_with fail;apply aC (zm P D L p o _ HKP.o.1 hp);intro w6 S;have H6:xA (uC w6 B D K.fs K.c K.k K.cr K.fl K.dn (oA T (vA K.fs) G)/\iB w6 w.1.size #[oA a (vA K.fs) J,lA mA K.c,lA mA K.k,lA mA K.cr,lA mA K.fl,pA K.dn] 37/\iB w6 (w.1.size+1+1) #[oA aA 0 0,lA mA 0,lA mA 0,lA mA 0,lA mA 0,pA cA] 37/\iB w6 (w.1.size+1+1+1) #[lA mA 0,lA mA 0,lA mA 0] 38/\kB w w6/\pG w6 B T K.fs):=⟨HM.o.1.z S,HM.o.2.1.z S,HM.o.2.2.1.z S,HM.o.2.2.2.1.z S,oB HM.o.2.2.2.2.1 S,HM.o.2.2.2.2.2.z S⟩
 have Y:xA (KP w.1.size P D L L w6):=HKP.o.z S;have HB6:xA _:=oB HB5.o S;clear S HM HKP HB5;by_cases h0:nR L p o=0
 .obtain ⟨EA,hlb,hz60,hn9⟩:=kh (K:=K) h0;have E0:xA _:=EA;rw[h0];simp only[aOb,gH];have x1x:=H6.o.2.1.six;have hlm:vA K.fs<=maxLen:=by unfold maxLen;omega
  cases hdv:fF K.fs K.c K.k K.cr K.fl with
  |false=>
   have E:xA (rE K L p o=(⟨[],0,0,0,0,cA⟩,L,6)):=by show _=_;rw[E0.o,aIe hdv]
   have HV:xA (∀W,eB W a K.fs->qD 182 #[rA #[oA a (vA K.fs) J,lA mA K.c,lA mA K.k,lA mA K.cr,lA mA K.fl,pA K.dn]] W (pA cA)):=fun W h=>IH hdv W h HS.o.H hlm HS.o.sum;clear hdv EA h0 hn9;go_wp2_with fail;apply aC (HV.o _ (HF4.o _ HB6.o));intro k I;have C:=H6.o.2.2.1.z I;have Q:=H6.o.2.2.2.1.z I;have m:xA _:=oB H6.o.2.2.2.2.1 I;obtain⟨_,_,_,_,l0,l1,l2⟩:=(Y.o.z I).cells;have c:=C.six;obtain⟨y0,y1,y2⟩:=Q.three;have b:=C.free 0;have d:=C.free 1;have f:=C.free 2;have g:=C.free 3;have i:=C.free 4;have j:=C.free 5;have g0:=Q.free 0;have g1:=Q.free 1;have g2:=Q.free 2;clear I x1x;go_wp2_with fail;go_region
   obtain⟨V,U⟩:=KT (v0:=oA aA 0 0) (v1:=lA mA 0) (v2:=lA mA 0) (v3:=lA mA 0) (v4:=lA mA 0) (v5:=pA cA) (x0:=lA mA L.first) (x1:=lA mA L.last) (x2:=lA mA L.size) C Q;have HFB:xA (kB w (dP w.1.size k (oA aA 0 0) (lA mA 0) (lA mA 0) (lA mA 0) (lA mA 0) (pA cA) (lA mA L.first) (lA mA L.last) (lA mA L.size))):=EJ m.o (Ia _);obtain⟨s0,s1,s2,s3,s4,s5⟩:=V.six;obtain⟨l,m,n⟩:=U.three;clear C Q y0 y1 y2 b d f g i j g0 g1 g2 l0 l1 l2 V U c;change Exit.then _ _ Exit.normal _ (dP w.1.size k (oA aA 0 0) (lA mA 0) (lA mA 0) (lA mA 0) (lA mA 0) (pA cA) (lA mA L.first) (lA mA L.last) (lA mA L.size)).drew;generalize dP w.1.size k (oA aA 0 0) (lA mA 0) (lA mA 0) (lA mA 0) (lA mA 0) (pA cA) (lA mA L.first) (lA mA L.last) (lA mA L.size)=W9 at *;go_wp2;refine bodyPost_ret (v:=uA #[rA #[oA aA 0 0,lA mA 0,lA mA 0,lA mA 0,lA mA 0,pA cA],rA #[lA mA L.first,lA mA L.last,lA mA L.size],lA mA 6]) (by simp[results,results215,go_sem,s0,s1,s2,s3,s4,s5,l,m,n]) rfl ?_;rw[E.o];exact⟨aA,0,rfl,Ca rfl,HFB.o.drew⟩
  |true=>
   have HV:xA (∀W,eB W a K.fs->qD 182 #[rA #[oA a (vA K.fs) J,lA mA K.c,lA mA K.k,lA mA K.cr,lA mA K.fl,pA K.dn]] W (pA dA)):=fun W h=>IH hdv W h HS.o.H hlm HS.o.sum;have HST:xA (∀W,kB w6 W->qV N W B P D K L):=fun W J=>⟨HPW.o.z (HBX.o N eD).2.2.2.2,oB HB6.o J,by rw[O.o];exact hB,by rw[O.o];exact hP,(Y.o.z J).1,⟨_,H6.o.1.z J⟩,hdv⟩
   have HAD:xA (∀W,kB w6 W->Calls prog 249 #[qA (bA ⟨P,0,aA⟩),nA (jF p),lA mA o] W fun e w'=>e=.returned (gH (xO K L (jF p) o).2.2)/\(xO K L (jF p) o).2.2<=6/\qV N w' B P D (xO K L (jF p) o).1 (xO K L (jF p) o).2.1):=fun W J=>by
    cases hfu:bQ L (jF p).size o with
    |false=>exact aCw (jF p) o (HST.o W J) hlb hz60 hfu
    |true=>exact aIf (jF p) o (HST.o W J) hlb hz60 hfu (hn9 hfu)
   have HFR:xA _:=fun W=>WJ p W (by unfold maxLen;omega);obtain⟨⟨q,M,O⟩,Z⟩:∃R,xO K L (jF p) o=R:=⟨_,rfl⟩
   have E:xA (rE K L p o=(q,M,O)):=by show _=_;rw[E0.o,Z]
   rw[Z]at HAD;clear Z EA h0 hn9 hdv E0 hlb hz60;generalize jF p=F at *;go_wp2_with fail;apply aC (HV.o _ (HF4.o _ HB6.o));intro k I;have HB7:xA _:=I;clear I x1x;go_wp2_with fail;apply aC (HFR.o _);intro X A;have HB8:xA _:=oB HB7.o A;clear A;go_wp2_with fail;apply aC (HAD.o _ HB8.o);rintro w9 ⟨hc6,I⟩;obtain⟨k,hv9⟩:=I.drive;obtain⟨Z,H,rfl,k⟩:=cH hv9.row;obtain⟨_,hL9,hR9,J,hb9⟩:=HBX.o _ I.below;have H9:xA (uC w9 B D q.fs q.c q.k q.cr q.fl q.dn (oA Z (vA q.fs) H)/\iB w9 (w.1.size+1+1) #[oA aA 0 0,lA mA 0,lA mA 0,lA mA 0,lA mA 0,pA cA] 37/\iB w9 (w.1.size+1+1+1) #[lA mA 0,lA mA 0,lA mA 0] 38/\kB w w9/\pG w9 B Z q.fs):=⟨hv9,hR9,J,hb9,k⟩
   have HKP9:xA (KP w.1.size P D M L w9):=⟨I.wr,hL9⟩
   have HCD:xA _:=fun W=>aJ O hc6 W;have HUN:xA _:=fun W(h:uC W B D q.fs q.c q.k q.cr q.fl q.dn (oA Z (vA q.fs) H))=>BH D _ Z _ H _ _ _ _ _ W h.blk;clear I hv9 k hL9 hR9 J hb9 HAD HST HV HFR HB7 HB8;generalize gH O=k at *;go_wp2_with fail;go_region_held3 (fun r=>r.cell? ⟨P,0,aA⟩=bA (qA (bA ⟨D,0,aA⟩))/\r.cell? ⟨P,1,aA⟩=bA (lA mA M.first)/\r.cell? ⟨P,2,aA⟩=bA (lA mA M.last)/\r.cell? ⟨P,3,aA⟩=bA (lA mA M.size)/\r.cell? ⟨w.1.size+1,0,aA⟩=bA (lA mA L.first)/\r.cell? ⟨w.1.size+1,1,aA⟩=bA (lA mA L.last)/\r.cell? ⟨w.1.size+1,2,aA⟩=bA (lA mA L.size))
    (exact KP.cells (L:=L) (by repeat (first|with_reducible refine KP.set ?_ (by omega) (by omega)|exact HKP9.o.drew|exact k.o)))
    (first
    |(go_at_call 186;apply aC (HUN.o _ (H9.o.1.z eD.drew));intro X A;have k:xA (KP w.1.size P D M L X):=HKP9.o.drew.z A;have C:=(H9.o.2.1.z eD.drew).z A;have Q:=(H9.o.2.2.1.z eD.drew).z A;have c:=C.six;obtain⟨y0,y1,y2⟩:=Q.three;have b:=C.free 0;have d:=C.free 1;have f:=C.free 2;have g:=C.free 3;have i:=C.free 4;have j:=C.free 5;have g0:=Q.free 0;have g1:=Q.free 1;have g2:=Q.free 2)
    |(go_at_call 248;apply lK (HCD.o _)))
   have H8:xA (kB w X/\pG X B Z q.fs):=⟨oB (oB H9.o.2.2.2.1 eD.drew) A,(H9.o.2.2.2.2.z eD.drew).z A⟩
   obtain⟨V,U⟩:=KT (v0:=oA Z (vA q.fs) H) (v1:=lA mA q.c) (v2:=lA mA q.k) (v3:=lA mA q.cr) (v4:=lA mA q.fl) (v5:=pA q.dn) (x0:=lA mA M.first) (x1:=lA mA M.last) (x2:=lA mA M.size) C Q;have HFB:xA (kB w (dP w.1.size X (oA Z (vA q.fs) H) (lA mA q.c) (lA mA q.k) (lA mA q.cr) (lA mA q.fl) (pA q.dn) (lA mA M.first) (lA mA M.last) (lA mA M.size))):=EJ H8.o.1 (Ia _);have I:xA (pG (dP w.1.size X (oA Z (vA q.fs) H) (lA mA q.c) (lA mA q.k) (lA mA q.cr) (lA mA q.fl) (pA q.dn) (lA mA M.first) (lA mA M.last) (lA mA M.size)) B Z q.fs):=SE H8.o.2 hB;obtain⟨s0,s1,s2,s3,s4,s5⟩:=V.six;obtain⟨l,m,n⟩:=U.three;clear C Q y0 y1 y2 b d f g i j g0 g1 g2 V U c;change Exit.then _ _ Exit.normal _ (dP w.1.size X (oA Z (vA q.fs) H) (lA mA q.c) (lA mA q.k) (lA mA q.cr) (lA mA q.fl) (pA q.dn) (lA mA M.first) (lA mA M.last) (lA mA M.size));generalize dP w.1.size X (oA Z (vA q.fs) H) (lA mA q.c) (lA mA q.k) (lA mA q.cr) (lA mA q.fl) (pA q.dn) (lA mA M.first) (lA mA M.last) (lA mA M.size)=W9 at *;go_wp2;refine bodyPost_ret (v:=uA #[rA #[oA Z (vA q.fs) H,lA mA q.c,lA mA q.k,lA mA q.cr,lA mA q.fl,pA q.dn],rA #[lA mA M.first,lA mA M.last,lA mA M.size],lA mA O]) (by simp[results,results215,go_sem,s0,s1,s2,s3,s4,s5,l,m,n]) rfl ?_;rw[E.o];exact⟨Z,H,rfl,I.o.mono (by omega),HFB.o⟩
 have E:xA (rE K L p o=(K,L,nR L p o)):=kj h0;have J:nR L p o=21\/nR L p o=22\/nR L p o=23:=by
  unfold nR at h0 |-
  split;exact Ca rfl;split;exact La (Ca rfl);split;exact La (La rfl)
  rename_i Z h2 h3;rw[Ja Z,Ja h2,Ja h3]at h0;exact absurd rfl h0
 obtain⟨t,Z⟩:∃t,aOb (nR L p o)=.iface 200 (nA t):=by
  rcases J with e|e|e<;>rw[e]<;>exact⟨_,rfl⟩
 have HCD:xA (∀W,dI 248 #[.iface 200 (nA t)] W (lA mA (nR L p o:Nat))):=fun W=>by
  rw[<-Z];exact pw _ (La (La J)) W
 have HUN:xA _:=fun W(h:uC W B D K.fs K.c K.k K.cr K.fl K.dn (oA T (vA K.fs) G))=>BH D _ T _ G _ _ _ _ _ W h.blk;rw[Z];clear Z h0 J;generalize nR L p o=O at *;go_wp2_with fail;go_region_held3 (fun r=>r.cell? ⟨P,0,aA⟩=bA (qA (bA ⟨D,0,aA⟩))/\r.cell? ⟨P,1,aA⟩=bA (lA mA L.first)/\r.cell? ⟨P,2,aA⟩=bA (lA mA L.last)/\r.cell? ⟨P,3,aA⟩=bA (lA mA L.size)/\r.cell? ⟨w.1.size+1,0,aA⟩=bA (lA mA L.first)/\r.cell? ⟨w.1.size+1,1,aA⟩=bA (lA mA L.last)/\r.cell? ⟨w.1.size+1,2,aA⟩=bA (lA mA L.size))
  (exact KP.cells (L:=L) (by repeat (first|with_reducible refine KP.set ?_ (by omega) (by omega)|exact Y.o.drew|exact k.o)))
  (first
  |(go_at_call 186;apply aC (HUN.o _ (H6.o.1.z eD.drew));intro X A;have k:xA (KP w.1.size P D L L X):=Y.o.drew.z A;have C:=(H6.o.2.2.1.z eD.drew).z A;have Q:=(H6.o.2.2.2.1.z eD.drew).z A;have c:=C.six;obtain⟨y0,y1,y2⟩:=Q.three;have b:=C.free 0;have d:=C.free 1;have f:=C.free 2;have g:=C.free 3;have i:=C.free 4;have j:=C.free 5;have g0:=Q.free 0;have g1:=Q.free 1;have g2:=Q.free 2)
  |(go_at_call 248;apply lK (HCD.o _)))
 have H8:xA (kB w X/\pG X B T K.fs):=⟨oB (oB H6.o.2.2.2.2.1 eD.drew) A,(H6.o.2.2.2.2.2.z eD.drew).z A⟩
 obtain⟨V,U⟩:=KT (v0:=oA T (vA K.fs) G) (v1:=lA mA K.c) (v2:=lA mA K.k) (v3:=lA mA K.cr) (v4:=lA mA K.fl) (v5:=pA K.dn) (x0:=lA mA L.first) (x1:=lA mA L.last) (x2:=lA mA L.size) C Q;have HFB:xA (kB w (dP w.1.size X (oA T (vA K.fs) G) (lA mA K.c) (lA mA K.k) (lA mA K.cr) (lA mA K.fl) (pA K.dn) (lA mA L.first) (lA mA L.last) (lA mA L.size))):=EJ H8.o.1 (Ia _);have I:xA (pG (dP w.1.size X (oA T (vA K.fs) G) (lA mA K.c) (lA mA K.k) (lA mA K.cr) (lA mA K.fl) (pA K.dn) (lA mA L.first) (lA mA L.last) (lA mA L.size)) B T K.fs):=SE H8.o.2 hB;obtain⟨s0,s1,s2,s3,s4,s5⟩:=V.six;obtain⟨l,m,n⟩:=U.three;clear C Q y0 y1 y2 b d f g i j g0 g1 g2 V U c;change Exit.then _ _ Exit.normal _ (dP w.1.size X (oA T (vA K.fs) G) (lA mA K.c) (lA mA K.k) (lA mA K.cr) (lA mA K.fl) (pA K.dn) (lA mA L.first) (lA mA L.last) (lA mA L.size));generalize dP w.1.size X (oA T (vA K.fs) G) (lA mA K.c) (lA mA K.k) (lA mA K.cr) (lA mA K.fl) (pA K.dn) (lA mA L.first) (lA mA L.last) (lA mA L.size)=W9 at *;go_wp2;refine bodyPost_ret (v:=uA #[rA #[oA T (vA K.fs) G,lA mA K.c,lA mA K.k,lA mA K.cr,lA mA K.fl,pA K.dn],rA #[lA mA L.first,lA mA L.last,lA mA L.size],lA mA O]) (by simp[results,results215,go_sem,s0,s1,s2,s3,s4,s5,l,m,n]) rfl ?_;rw[E.o];exact⟨T,G,rfl,I.o.mono (by omega),HFB.o⟩
def gO{p:FuncId}{k:Nat}(f:p=35/\k=1\/p=133/\k=2\/p=142/\k=8)(v:Int)(w:eA):qD p #[lA mA v] w (nA (pB k v)):=by
 have b:=yA (fun n d W=>aH n v W d);rcases f with⟨rfl,rfl⟩|⟨rfl,rfl⟩|⟨rfl,rfl⟩
 .go_enter func35,ntmps35;go_wp2_with fail;refine aC (b.o 1 (by omega) _) ?_;intro c a;go_wp2;go_ret;exact⟨rfl,a⟩
 .go_enter func133,ntmps133;go_wp2_with fail;refine aC (b.o 2 (by omega) _) ?_;intro c a;go_wp2;go_ret;exact⟨rfl,a⟩
 go_enter func142,ntmps142;go_wp2_with fail;refine aC (b.o 8 (by omega) _) ?_;intro c a;go_wp2;go_ret;exact⟨rfl,a⟩
structure GE(w W:World)(fl rq:Array Value)(v:Value)(ps:List gB):Prop where
 S:iB W w.1.size fl 162
 R:iB W (w.1.size+1) rq 60
 V:W.ownsRow (w.1.size+1+1) 9 1 v (vA ps) (ps.map iA.string)
 N:kB w W
section
variable {w W W':eA} {fl rq:Array iA} {v v':iA} {ps qs:List gB}
theorem GE.z(h:GE w W fl rq v ps)(a:kB W W'):GE w W' fl rq v ps:=⟨h.S.z a,h.R.z a,jC h.V a,oB h.N a⟩
theorem GE.size(h:GE w W fl rq v ps):w.1.size+1+1<=W.1.size:=zA h.R
theorem GE.turn(h:GE w W fl rq v ps)(a:bB (fun i=>w.1.size+1+1<=i/\v.ownBlock=bA i) W W')(b:W'.ownsRow (w.1.size+1+1) 9 1 v' (vA ps+vA qs) (ps.map iA.string++qs.map iA.string)):GE w W' fl rq v' (ps++qs):=
 ⟨a.blk h.S (fun e=>by omega),a.blk h.R (fun e=>by omega),by rw[Kb,Ld];exact b,h.N.trans (a.below h.N.size fun q c e=>by omega)⟩
end
def vJ(a:List cF):List gB:=a.flatMap fun x=>[bI x.B,pB 8 x.bits]
def rf(a:List cF)(k:Nat)(h:k<vA a):vJ (a.take (k+1))=vJ (a.take k)++[bI a[k].B,pB 8 a[k].bits]:=by
 unfold vJ;rw[Pa h,He];rfl
def QW:∀(a:List cF),lF (vJ a)=sE a
 |[]=>rfl
 |x::q=>by
  have e:vJ (x::q)=[bI x.B,pB 8 x.bits]++vJ q:=rfl;rw[e,zF,QW q,sE];simp[lF,nT]
def ZV:∀(a:List cF),fE a<=1048576->(∀i(h:i<vA a),vA a[i].B<=255)->wF (vJ a)<=vA a*2000000
 |[],_,_=>by simp[vJ,wF]
 |x::q,d,b=>by
  have e:vJ (x::q)=[bI x.B,pB 8 x.bits]++vJ q:=rfl;have c:vA x.B<=255:=b 0 (by simp);have f:fE (x::q)=eH x+fE q:=rfl;have k:eH x=vA x.B+nD x.B:=rfl;have j:=ZV q (by omega) (fun i h=>b (i+1) (by simpa using h));have g:(bI x.B).size<=1999000:=by rw[bI,Ka,qB,kK];omega
  rw[e,nH];simp only[wF,qB,Zb];omega
def AK:(prog.info? 9).map (fun i=>(i.zero,i.size,i.bytes))=bA (bA (nA kA),1,16):=by kernel_rfl
def wk(r:xG)(a:iC)(l:Nat)(w:eA)(p:jI w a r.P)(hz:cJ r<=1048576)(a0:nS r):
 qD 131 #[shV r.K,rA #[lA mA r.K,nA r.T,nA r.R,lA mA r.U,oA a (vA r.P) l]] w (nA (dW r)):=by
 have y:cJ r=r.T.size+r.R.size+vA r.P+fE r.P:=rfl;have h4:=a0.2.2.2.2.1;have hl:=a0.2.2.2.2.2.2.2.1;have hx:=a0.2.2.2.2.2.2.2.2;obtain⟨k,E,D,F,d⟩:=r;dsimp only at *;have HU:=yA (fun W=>gO (Ca ⟨rfl,rfl⟩) k W);have A1:xA (∃Q,(qU k=dA/\(∃x,Q=[x]/\x.size<=1100000/\∀W,qD 171 #[nA E] W (nA x))\/qU k=cA/\Q=[])/\lF Q=(if qU k=dA then kO E else kA)):=by
  by_cases h:qU k=dA
  .exact ⟨[kO E],Ca ⟨by simpa using h,_,rfl,by rw[lH];omega,fun W=>pT E W (by omega)⟩,by simp[lF,h]⟩
  exact ⟨[],La ⟨by simpa using h,rfl⟩,by simp[lF,h]⟩
 have A2:xA (∃Q,((k==1)=dA/\(∃x,Q=[x]/\x.size<=1100000/\∀W,qD 133 #[lA mA (vA d:Nat)] W (nA x))\/(k==1)=cA/\Q=[])/\lF Q=(if k=1 then pB 2 (vA d:Nat) else kA)):=by
  by_cases h:k=1
  .exact ⟨[pB 2 (vA d:Nat)],Ca ⟨by simpa using h,_,rfl,by rw[qB];omega,fun W=>gO (La (Ca ⟨rfl,rfl⟩)) _ W⟩,by simp[lF,h]⟩
  exact ⟨[],La ⟨by simpa using h,rfl⟩,by simp[lF,h]⟩
 have A3:xA (∃Q,(oU k=dA/\(∃x,Q=[x]/\x.size<=1100000/\∀W,qD 146 #[nA D] W (nA x))\/oU k=cA/\Q=[])/\lF Q=(if oU k=dA then qF D else kA)):=by
  by_cases h:oU k=dA
  .exact ⟨[qF D],Ca ⟨by simpa using h,_,rfl,by rw[uF];omega,fun W=>yL D W (by omega)⟩,by simp[lF,h]⟩
  exact ⟨[],La ⟨by simpa using h,rfl⟩,by simp[lF,h]⟩
 have A4:xA (∃Q,(zU k=dA/\(∃x,Q=[x]/\x.size<=1100000/\∀W,qD 142 #[lA mA F] W (nA x))\/zU k=cA/\Q=[])/\lF Q=(if zU k=dA then pB 8 F else kA)):=by
  by_cases h:zU k=dA
  .exact ⟨[pB 8 F],Ca ⟨by simpa using h,_,rfl,by rw[qB];omega,fun W=>gO (La (La ⟨rfl,rfl⟩)) _ W⟩,by simp[lF,h]⟩
  exact ⟨[],La ⟨by simpa using h,rfl⟩,by simp[lF,h]⟩
 obtain⟨Y,A1,E1⟩:=A1.o;obtain⟨Q2,A2,E2⟩:=A2.o;obtain⟨Q3,A3,E3⟩:=A3.o;obtain⟨Q4,A4,E4⟩:=A4.o;have HX:xA (lF ([pB 1 k]++Y++Q2++vJ d++Q3++Q4)=dW ⟨k,E,D,F,d⟩):=by
  show _=_;unfold dW;simp only[zF,E1,E2,E3,E4,QW];by_cases h:k=1
  .simp[lF,h,Wa]
  simp[lF,h,h4 h,sE,Wa]
 have l1:vA Y<=1:=by rcases A1 with⟨_,x,rfl,_⟩|⟨_,rfl⟩<;>simp
 have l2:vA Q2<=1:=by rcases A2 with⟨_,x,rfl,_⟩|⟨_,rfl⟩<;>simp
 have HF:=yA p;have HH:=yA hx;have l3:vA Q3<=1/\wF Q3<=1100000:=by rcases A3 with⟨_,x,rfl,h,_⟩|⟨_,rfl⟩<;>simp[wF]<;>omega
 have l4:vA Q4<=1/\wF Q4<=1100000:=by rcases A4 with⟨_,x,rfl,h,_⟩|⟨_,rfl⟩<;>simp[wF]<;>omega
 have l5:wF Y<=1100000/\wF Q2<=1100000:=⟨by rcases A1 with⟨_,x,rfl,h,_⟩|⟨_,rfl⟩<;>simp[wF]<;>omega,by rcases A2 with⟨_,x,rfl,h,_⟩|⟨_,rfl⟩<;>simp[wF]<;>omega⟩
 have hsum:wF ([pB 1 k]++Y++Q2++vJ d++Q3++Q4)<=140737488355328:=by
  have h:=ZV d (by omega) (fun i hi=>(hx i hi).1);have:=qB 1 k;simp only[nH,wF];omega
 replace A3:=yA A3;replace A4:=yA A4;clear E1 E2 E3 E4 h4 p hx a0;unfold shV;generalize dW ⟨k,E,D,F,d⟩=RX at *;generalize pB 1 k=U at *;generalize qU k=t at *;generalize oU k=m at *;generalize zU k=n at *;generalize (k==1||k==2||k==3||k==4)=c at *;generalize (k==1)=s at *;go_enter func131,ntmps131;go_wp2_with fail;apply aC (HU.o _);intro I y;have G:xA (GE w (I.alloc (tA #[nA U] 9)) #[pA t,pA s,pA m,pA n,pA c] #[lA mA k,nA E,nA D,lA mA F,oA a (vA d) l] (oA (bA ⟨I.1.size,0,aA⟩) 1 1) [U]):=
  ⟨((((iB.new _ _ _).alloc _).z y).alloc _),by have:=((iB.new (w.alloc (tA #[pA t,pA s,pA m,pA n,pA c] 162)) #[lA mA k,nA E,nA D,lA mA F,oA a (vA d) l] 60).z y).alloc (tA #[nA U] 9);simpa using this,⟨rfl,La ⟨I.1.size,1,_,rfl,by have:=y.size;simpa using this,heap_alloc_new _ _,Ia _,by simp[maxLen],rfl,rfl⟩⟩,oB (oB (oB vB vB) y) vB⟩
 clear y HU;go_upto_region 2 with fail;generalize I.alloc (tA #[nA U] 9)=W at *;generalize I.1.size=g at *;clear I;generalize iA.agg #[pA t,pA s,pA m,pA n,pA c]=SV;obtain⟨L,M,O,T,s4⟩:=G.o.S.c5;have u:=G.o.R.c5;go_upto_if 13 with fail;go_cut [5] (fun v wx=>∃g C,v=.slice (bA ⟨g,0,aA⟩) (vA ([U]++Y)) C/\GE w wx #[pA t,pA s,pA m,pA n,pA c] #[lA mA k,nA E,nA D,lA mA F,oA a (vA d) l] v ([U]++Y))
 case first=>
  rcases A1 with⟨p,x,rfl,zx,A⟩|⟨p,rfl⟩
  .rw[p]at L |-
   replace A:=yA A;go_wp2_with fail;apply aC (A.o _);intro I y;replace G:=yA (G.o.z y);go_wp2_with(at_builtin;refine vQ rfl _ _ rfl underlying204 AK rfl (by omega) (by omega) (by rfl) G.o.V (by rfl) (by rfl) rfl (by simp[iA.oneCell']) (by first|omega|(simp<;>omega)) G.o.size ?_;intro g2 c2 w2 h1 h2;have G2:=yA (G.o.turn (qs:=[x]) h2.o h1.o));go_wp2;go_meet;exact⟨g2,c2,by simp,by simpa using G2.o⟩
  rw[p]at L |-
  go_wp2;go_meet;exact⟨g,_,by rw[Cd]<;>rfl,by simpa using G.o⟩
 clear L G;obtain⟨g,C,rfl,G⟩:=hcut;replace G:=yA G;rename eA=>W;obtain⟨L,M,O,T,s4⟩:=G.o.S.c5;have u:=G.o.R.c5;go_upto_if 21 with fail;go_cut [5] (fun v wx=>∃g C,v=.slice (bA ⟨g,0,aA⟩) (vA (([U]++Y)++Q2)) C/\GE w wx #[pA t,pA s,pA m,pA n,pA c] #[lA mA k,nA E,nA D,lA mA F,oA a (vA d) l] v (([U]++Y)++Q2))
 case first=>
  rcases A2 with⟨p,x,rfl,zx,A⟩|⟨p,rfl⟩
  .rw[p]at M |-
   replace A:=yA A;go_wp2_with fail;apply aC (A.o _);intro I y;replace G:=yA (G.o.z y);go_wp2_with(at_builtin;refine vQ rfl _ _ rfl underlying204 AK rfl (by omega) (by omega) (by rfl) G.o.V (by rfl) (by rfl) rfl (by simp[iA.oneCell']) (by first|omega|(simp<;>omega)) G.o.size ?_;intro g2 c2 w2 h1 h2;have G2:=yA (G.o.turn (qs:=[x]) h2.o h1.o));go_wp2;go_meet;exact⟨g2,c2,by simp,by simpa using G2.o⟩
  rw[p]at M |-
  go_wp2;go_meet;exact⟨g,_,by rw[Cd]<;>rfl,by simpa using G.o⟩
 clear M G;obtain⟨g,C,rfl,G⟩:=hcut;replace G:=yA G;rename eA=>W;obtain⟨L,M,O,T,s4⟩:=G.o.S.c5;have u:=G.o.R.c5;have hps:vA ([U]++Y++Q2)<=3:=by simp;omega
 generalize hP:[U]++Y++Q2=P at *;clear L M O T s4 A1 A2 l1 l2;go_wp2;go_loopw [5,7,32] (fun out _ i wr=>∃(j g cv z:Nat),j<=vA d/\i=lA mA j/\out=oA (bA ⟨g,0,aA⟩) z cv/\z<=3+2*j/\xA (z=vA (P++vJ (d.take j)))/\xA (GE w wr #[pA t,pA s,pA m,pA n,pA c] #[lA mA k,nA E,nA D,lA mA F,oA a (vA d) l] (oA (bA ⟨g,0,aA⟩) z cv) (P++vJ (d.take j)))) (fun _ _ i _=>vA d-(intOf i).toNat)
 case atStart=>exact⟨0,g,C,vA P,Oa _,rfl,rfl,by omega,yA (by simp[vJ]),yA (by simpa[vJ]using G.o)⟩
 case round=>
  clear G W g C u;obtain⟨j,g,cv,z,hj,rfl,rfl,hz2,HZ,G⟩:=hrel;rename eA=>W;obtain⟨L,M,O,T,s4⟩:=G.o.S.c5;have u:=G.o.R.c5;by_cases K:j<vA d
  .obtain ⟨b,o,a1,q1,rfl,y,c0,c1,p1⟩:=(HF.o.z G.o.N).at K;have hll:=(HH.o j K).1;have hbs:=rY d j K;have hbe:eH d[j]=vA d[j].B+nD d[j].B:=rfl;have HK:=yA (fun W'(hW:kB W W')=>xw a1 q1 d[j].B W' (p1.z hW) (fun i hi=>by have:=TN d[j].B i hi;omega) hll);have HB:=yA (fun W'=>gO (La (La ⟨rfl,rfl⟩)) d[j].bits W');have E2:=yA (show P++vJ (d.take (j+1))=P++vJ (d.take j)++_ by rw[rf d j K,Nd]);generalize P++vJ (d.take j)=ps at *;have hgl:=G.o.V.lt g rfl;have HV:xA (W.ownsRow (w.1.size+1+1) 9 1 (oA (bA ⟨g,0,aA⟩) z cv) z (ps.map iA.string)):=yA (by have:=G.o.V;rw[<-HZ.o]at this;exact this);clear p1 hbe hbs;generalize bI d[j].B=SK at *;generalize pB 8 d[j].bits=S8 at *;generalize vA d[j].B=ll at *;generalize d[j].bits=bi at *;have X:=yA (iB.new W #[oA a1 ll q1,lA mA bi] 67);have HW:=yA (yG W (tA #[oA a1 ll q1,lA mA bi] 67));replace G:=yA (G.o.z HW.o);replace HV:=yA (jC HV.o HW.o);go_upto_region 9 with fail;generalize W.alloc (tA #[oA a1 ll q1,lA mA bi] 67)=V at *;replace HK:=yA (fun W'(h:kB V W')=>HK.o W' (oB HW.o h));have hX:=zA X.o;obtain⟨x0,x1⟩:=X.o.c2;have hw2:=G.o.size;clear X HW y c0 c1 L M O T s4 u;generalize W.1.size=BX at *;clear W;go_region_held3 (fun H=>H.cell? ⟨BX,0,aA⟩=bA (oA a1 ll q1)/\H.cell? ⟨BX,1,aA⟩=bA (lA mA bi))
    (first
     |go_keep
     |exact⟨(k5 0).trans x0,(k5 1).trans x1⟩
     |exact⟨((f.alloc f.size _).cell hX).trans x0,((f.alloc f.size _).cell hX).trans x1⟩
     |exact⟨(f.cell hX).trans x0,(f.cell hX).trans x1⟩
     |exact⟨(Z.cell hX).trans x0,(Z.cell hX).trans x1⟩)
    (first
     |(go_at_call 172;apply aC (HK.o _ (fA.refl _ V).drew);intro I hb1;have Z:kB V I:=(fA.refl _ V).drew.trans hb1)
     |(go_at_call 142;apply aC (HB.o _);intro w2 hb2;have f:kB V w2:=Z.trans (hb2.mono Z.size))
     |(refine dT (by rfl) _ _ (by rfl) underlying204 AK rfl (by omega) (by omega) (B:=w.1.size+1+1) (by rfl) (by exact jC (jC HV.o f) vB) [nA SK,nA S8] (by rfl) rfl (by exact La ⟨_,rfl,eA.news_of_block (cs:=#[nA SK,nA S8]) (heap_alloc_new _ _)⟩) (by simp[iA.oneCell']) (by omega) (by have:=f.size;simp;omega) ?_;intro g5 c5 w5 ho5 J hk5 hg5;clear hg5;have k5:∀i,w5.cell? ⟨BX,i,aA⟩=V.cell? ⟨BX,i,aA⟩:=fun i=>(eA.cell?_of_block (hk5 BX (by have:=f.size;simp;omega) (by omega))).trans ((f.alloc f.size (tA #[nA SK,nA S8] 9)).cell hX);have G5:xA (GE w w5 #[pA t,pA s,pA m,pA n,pA c] #[lA mA k,nA E,nA D,lA mA F,oA (bA ⟨b,o,aA⟩) (vA d) l] (oA (bA ⟨g5,0,aA⟩) (z+2) c5) (ps++[SK,S8])):=yA ((G.o.z (oB f (yG w2 (tA #[nA SK,nA S8] 9)))).turn (qs:=[SK,S8]) ⟨J.os,J.tape,J.output,J.size,fun q hq hn=>hk5 q hq fun e=>hn ⟨by omega,by subst e;rfl⟩⟩ (by rw[<-HZ.o];exact ho5));clear ho5 J hk5))
   clear k5;go_wp2;exact⟨⟨j+1,g5,c5,z+2,by omega,by go_num,rfl,by omega,yA (by rw[E2.o,HZ.o];simp),yA (by rw[E2.o];exact G5.o)⟩,by simp[intOf];omega⟩
  obtain rfl:j=vA d:=by omega
  rw[Rb]at HZ G;generalize P++vJ d=ps at *;replace HZ:=HZ.o;subst HZ;clear HF HH K hj;go_upto_if 47 with fail;go_cut [5] (fun v wx=>∃g C,v=.slice (bA ⟨g,0,aA⟩) (vA (ps++Q3)) C/\GE w wx #[pA t,pA s,pA m,pA n,pA c] #[lA mA k,nA E,nA D,lA mA F,oA a (vA d) l] v (ps++Q3))
  case first=>
   rcases A3.o with⟨p,x,rfl,zx,A⟩|⟨p,rfl⟩
   .rw[p]at O |-
    replace A:=yA A;go_wp2_with fail;apply aC (A.o _);intro I y;replace G:=yA (G.o.z y);go_wp2_with(at_builtin;refine vQ rfl _ _ rfl underlying204 AK rfl (by omega) (by omega) (by rfl) G.o.V (by rfl) (by rfl) rfl (by simp[iA.oneCell']) (by first|omega|(simp<;>omega)) G.o.size ?_;intro g2 c2 w2 h1 h2;have G2:=yA (G.o.turn (qs:=[x]) h2.o h1.o));go_wp2;go_meet;exact⟨g2,c2,by simp,by simpa using G2.o⟩
   rw[p]at O |-
   go_wp2;go_meet;exact⟨g,_,by rw[Cd]<;>rfl,by simpa using G.o⟩
  clear O G;obtain⟨g,C,rfl,G⟩:=hcut;replace G:=yA G;rename eA=>W;obtain⟨L,M,O,T,s4⟩:=G.o.S.c5;have u:=G.o.R.c5;have hl3:vA (ps++Q3)<=1100:=by simp;omega
  generalize ps++Q3=p3 at *;go_upto_if 55 with fail;go_cut [5] (fun v wx=>∃g C,v=.slice (bA ⟨g,0,aA⟩) (vA (p3++Q4)) C/\GE w wx #[pA t,pA s,pA m,pA n,pA c] #[lA mA k,nA E,nA D,lA mA F,oA a (vA d) l] v (p3++Q4))
  case first=>
   rcases A4.o with⟨p,x,rfl,zx,A⟩|⟨p,rfl⟩
   .rw[p]at T |-
    replace A:=yA A;go_wp2_with fail;apply aC (A.o _);intro I y;replace G:=yA (G.o.z y);go_wp2_with(at_builtin;refine vQ rfl _ _ rfl underlying204 AK rfl (by omega) (by omega) (by rfl) G.o.V (by rfl) (by rfl) rfl (by simp[iA.oneCell']) (by first|omega|(simp<;>omega)) G.o.size ?_;intro g2 c2 w2 h1 h2;have G2:=yA (G.o.turn (qs:=[x]) h2.o h1.o));go_wp2;go_meet;exact⟨g2,c2,by simp,by simpa using G2.o⟩
   rw[p]at T |-
   go_wp2;go_meet;exact⟨g,_,by rw[Cd]<;>rfl,by simpa using G.o⟩
  clear T G;obtain⟨g,C,rfl,G⟩:=hcut;replace G:=yA G;rename eA=>W;obtain⟨L,M,O,T,s4⟩:=G.o.S.c5;have u:=G.o.R.c5;have hl4:vA (p3++Q4)<=1200:=by simp;omega
  generalize p3++Q4=p4 at *;obtain⟨hcv,hg,hcs⟩:=oG G.o.V;have HJ:=yA (lI g _ C p4 W rfl hcs hg hcv (by omega) hsum);rw[HX.o]at HJ;clear hcv hg hcs L M O T s4 u;go_wp2_with fail;apply aC HJ.o;intro w9 hb9;have B9:=yA (oB G.o.N hb9);clear hb9;go_wp2;go_ret;exact⟨rfl,B9.o⟩
