import Derived.Test.YtflbidbilgndeaaGreatDoorJ15
set_option maxRecDepth 100000
set_option maxHeartbeats 8000000
set_option linter.defProp false
open Bool renaming false->cA,true->dA
open Option renaming none->aA
open ByteArray renaming empty->kA
open List renaming length->yA
namespace Go.Proofs.YtflbidbilgndeaaGreatDoor
open Value renaming slice->pA,agg->tA,int->lA,bool->qA,string->oA
open Go renaming World->eA
open IntKind renaming i64->mA
open Obj renaming cells->vA
open Ending renaming returned->uA
open Go.RowKit Tryz
def aCy(a:List kB):Prop:=∀i(h:i<yA a),a[i].s.size<=1000000000
def aHv(a:List fB):Prop:=∀i(h:i<yA a),a[i].N.size<=maxLen/\aCy a[i].M/\aCy a[i].Z/\yA a[i].M<=1000000000/\yA a[i].Z<=1000000000
structure PS(w W:World)(c:iC)(now:Int)(a:mC)(n cap:Nat):Prop where
 C:nB W w.1.size #[zA c.w,zA c.tl,zA c.ml,zA c.sh,zA c.ha,zA c.sg] 24
 S:nB W (w.1.size+1) #[zA now,pA a n cap] 40
 B:uB w W
def PS.z{w W f:eA}{c:iC}{d:Int}{a:mC}{n b:Nat}(h:PS w W c d a n b)(e:uB W f):PS w f c d a n b:=⟨h.C.z e,h.S.z e,vB h.B e⟩
def sJ(c:iC)(t:Int)(a:mC)(cap:Nat)(v:List fB)(w:eA)(hf:xC w a v)(hb:aHv v)(hlen:yA v<=1000000000):
 dF 49 #[rE c,tA #[lA mA t,pA a (yA v) cap]] w (qA (nC c t v)):=by
 have HC:=bB (λW=>qR c W);have HSB:cB (nC c t v=(lH c&&bC t 0 1000000000000&&decide (yA v<=10000) &&eN c.w t v)):=rfl;have HF:=bB hf;have HB:=bB hb;unfold rE at *;have hcs:(lH c=cA\/lH c=dA/\(bC t 0 1000000000000=cA\/bC t 0 1000000000000=dA/\(10000:Int)<yA v))/\nC c t v=cA\/lH c=dA/\bC t 0 1000000000000=dA/\¬(10000:Int)<yA v/\nC c t v=eN c.w t v:=by
  rw[HSB.o];cases lH c<;>cases bC t 0 1000000000000<;>simp
  by_cases h:(10000:Int)<yA v
  .exact Ca ⟨h,λh'=>by omega⟩
  exact La ⟨by omega,λ_=>by omega⟩
 have HP:=fun{W:eA}(hb:Below _ (eA.alloc (eA.alloc w (vA #[lA mA c.w,lA mA c.tl,lA mA c.ml,lA mA c.sh,lA mA c.ha,lA mA c.sg] 24)) (vA #[lA mA t,pA a (yA v) cap] 40)) W)=>bB (show PS w W c t a (yA v) cap from⟨((nB.new _ _ _).alloc _).z hb,by have:=(nB.new (w.alloc (vA #[lA mA c.w,lA mA c.tl,lA mA c.ml,lA mA c.sh,lA mA c.ha,lA mA c.sg] 24)) #[lA mA t,pA a (yA v) cap] 40).z hb;simpa using this,vB (vB zB zB) hb⟩);obtain⟨g0|⟨g0,g1|⟨g1,g2⟩⟩,E⟩|⟨g0,g1,g2,E⟩:=hcs
 rotate_left 3;rotate_left 1;iterate 3
  .have E:=bB E
   rw[g0]at HC
   go_enter func49,ntmps49
   go_wp2_with(first
    |(go_at_call 38;apply lC (HC.o _);intro w1 a0;have P1:=HP a0;have s0:=P1.o.S.c2)
    |(go_at_call 91;refine lC (rD (by assumption) _) ?_;rintro w' rfl))
   go_ret
   exact⟨oB (by rw[E.o]),P1.o.B⟩
 have HSB2:=bB E;have hn0:=xJ g1;rw[g0]at HC;go_enter func49,ntmps49;go_wp2_with(first
  |(go_at_call 38;apply lC (HC.o _);intro w1 a0;have P1:=HP a0;have s0:=P1.o.S.c2)
  |(go_at_call 91;apply lC (rD g1 _);rintro w' rfl))
 go_loopw [5,6,7,8,9,10,29] (λ_ _ _ _ _ _ i wr=>∃k:Nat,k<=yA v/\i=lA mA k/\lI (pN c.w t v) k=dA/\uB w' wr) (λ_ _ _ _ _ _ i _=>yA v-(intOf i).toNat)
 case atStart=>exact⟨0,Oa _,rfl,rfl,iD⟩
 case round=>
  obtain⟨k,hk,rfl,hok,j0⟩:=hrel;have HOK:=bB hok;have HBEL:=bB j0;have PW:=bB (P1.o.z j0);by_cases k0:k<yA v
  .obtain ⟨b,o,a1,q1,a2,q2,rfl,hbl,m,p,q,r,p1,p2⟩:=(HF.o.z PW.o.B).at k0;obtain⟨n1,n2,n3,n4,n5⟩:=HB.o k k0;have F:cB (pN c.w t v k=cA->nC c t v=cA):=λh=>by rw[HSB2.o];exact wP h k0
   have I:cB (pN c.w t v k=(qO v k&&oP c.w t v[k])):=aX k0;have HPRE:cB (0<k->∃u:jB,qO v k=eK u v[k].N/\tC wr b (o+(k-1)*4) (oA u)):=λz=>by
    refine⟨_,rW z k0,?_⟩;obtain⟨b',o',_,_,_,_,e,_,u0,_⟩:=(HF.o.z PW.o.B).at (i:=k-1) (by omega)
    simp only[Qa,Addr.mk.injEq,Cc]at e;rw[e.1,e.2];exact u0
   have N:cB (k=0->qO v k=dA):=λz=>by subst z;rfl
   generalize v[k]=T at *;have Z:=bB (λW=>pI T.N W n1);have X:=bB (λW=>EI T a1 a2 q1 q2 W);have O:cB (oP c.w t T=(bD T.N&&bC T.L (-1) 1000000&&dM T.M&&gL c.w t T.Z&&!cF T)):=rfl;have hc2:(bD T.N=cA\/bD T.N=dA/\(bC T.L (-1) 1000000=cA\/bC T.L (-1) 1000000=dA/\cF T=dA))/\oP c.w t T=cA\/bD T.N=dA/\bC T.L (-1) 1000000=dA/\cF T=cA/\oP c.w t T=(dM T.M&&gL c.w t T.Z):=by
    rw[O.o];cases bD T.N<;>cases bC T.L (-1) 1000000<;>cases cF T<;>simp
   obtain⟨e1|⟨e1,e2|⟨e2,e3⟩⟩,E⟩|⟨e1,e2,e3,E⟩:=hc2
   rotate_left 3;rotate_left 1;iterate 3
    .have E:=bB E
     rw[e1]at Z
     try rw[e3]at X
     go_wp2_with(first
      |(go_at_call 52;apply dR (Z.o _))
      |(go_at_call 91;refine dR (rD (by assumption) _) ?_)
      |(go_at_call 109;apply lC (X.o _);intro w3 b0))
     go_ret
     exact⟨oB (F.o (by rw[I.o,E.o];simp)).symm,by first|exact vB PW.o.B (vB zB b0)|exact vB PW.o.B zB⟩
   have O:=bB E;rw[e1]at Z;rw[e3]at X;go_upto_region 8 with(first
    |(go_at_call 52;apply dR (Z.o _))
    |(go_at_call 91;apply dR (rD e2 _))
    |(go_at_call 109;apply lC (X.o _);intro w3 b0))
   have T3:=bB ((nB.new wr #[oA T.N,lA mA T.L,pA a1 (yA T.M) q1,pA a2 (yA T.Z) q2] 94).z b0);have R:=vB zB b0;have P3:=bB (PW.o.z R);have B3:=bB (vB HBEL.o R);have Q3:=bB (Vc (p1.z R) (p2.z R));have Y:cB (0<k->∃u:jB,qO v k=eK u T.N/\tC w3 b (o+(k-1)*4) (oA u)):=λz=>by
    obtain⟨u,e1,e2⟩:=HPRE.o z;exact⟨u,e1,(R.cell hbl).trans e2⟩
   generalize wr.1.size=tb at *;go_cut [61] (λs wx=>s=qA (!(qO v k))/\uB w3 wx)
   case first=>
    obtain⟨-,x0⟩:=P3.o.S.c2;obtain⟨x1,-⟩:=T3.o.c4;have hv:(∃u,((0:Int)<k/\0<k)/\tC w3 b (o+(k-1)*4) (oA u)/\qO v k=eK u T.N)\/decide ((0:Int)<k)=cA/\decide (0<k)=cA/\qO v k=dA:=by
     by_cases z:0<k
     .obtain ⟨u,hp,U⟩:=Y.o z;exact Ca ⟨u,⟨by omega,z⟩,U,hp⟩
     exact La ⟨by simp;omega,by simp;omega,N.o (by omega)⟩
    obtain⟨u,⟨z,h0'⟩,U,HP⟩|⟨hd,hd',HP⟩:=hv
    all_goals
     have HP:=bB HP;go_quiet (fail)
     go_wp2_with fail;go_meet;exact⟨by rw[HP.o];rfl,below_drewN iD _⟩
   obtain⟨rfl,Q⟩:=hcut;rename eA=>w4;have T4:=bB (T3.o.z Q);have PW:=bB (P3.o.z Q);have B4:=bB (vB B3.o Q);have P14:=bB (Q3.o.1.z Q);have P24:=bB (Q3.o.2.z Q);cases e4:qO v k
   .rw[e4]at I;go_wp2;go_ret;exact⟨oB (F.o (by rw[I.o];simp)).symm,PW.o.B⟩
   rw[e4]at I;obtain⟨-,-,y2,-⟩:=T4.o.c4;go_wp2;go_loopw [7,8,65] (λ_ _ j wr=>∃i:Nat,i<=yA T.M/\j=lA mA i/\lI (cM T.M) i=dA/\uB w4 wr) (λ_ _ j _=>yA T.M-(intOf j).toNat)
   case atStart=>exact⟨0,Oa _,rfl,rfl,iD⟩
   case round=>
    obtain⟨i,hi,rfl,l0,e0⟩:=hrel;have M:=bB l0;have y:=bB e0;by_cases A:i<yA T.M
    .obtain ⟨pb,po,rfl,m0,c0,c1⟩:=(P14.o.z y.o).at A;have HMF:cB _:=λh=>F.o (by rw[I.o,O.o];have:dM T.M=cA:=wP h A;rw[this];simp);have HMA:cB _:=AJ A;have hsz:=n2 i A;have G:cB (0<i->∃u:jB,iM T.M i=eK u T.M[i].s/\tC wr pb (po+(i-1)*2) (oA u)):=λz=>by
      refine⟨_,jU z A,?_⟩;obtain⟨b',o',e,_,u0,_⟩:=(P14.o.z y.o).at (i:=i-1) (by omega)
      simp only[Qa,Addr.mk.injEq,Cc]at e;rw[e.1,e.2];exact u0
     have N:cB (i=0->iM T.M i=dA):=λz=>by subst z;rfl
     generalize T.M[i]=P at *;have K:=bB (λW=>xM P.s W hsz);have H:=bB (wF wr (vA #[oA P.s,lA mA P.n] 96));have MB:=bB (nB.new wr #[oA P.s,lA mA P.n] 96);go_upto_region 13 with fail;generalize wr.alloc (vA #[oA P.s,lA mA P.n] 96)=W at *;have D:=bB (vB y.o H.o);have TB:=bB (T4.o.z D.o);have PB:=bB (PW.o.z D.o);replace G:cB (0<i->∃u:jB,iM T.M i=eK u P.s/\tC W pb (po+(i-1)*2) (oA u)):=λz=>by
      obtain⟨u,e1,e2⟩:=G.o z;exact⟨u,e1,(H.o.cell m0).trans e2⟩
     generalize wr.1.size=mb at *;go_cut [95] (λs wx=>s=qA (!(cM T.M i))/\uB W wx)
     case first=>
      have d:=λx:kC W=>(⟨(MB.o.z x.h).c2,(TB.o.z x.h).c4,(PB.o.z x.h).S.c2,(PB.o.z x.h).C.c6⟩:_/\_/\_/\_)
      simp only[forall_and]at d;obtain⟨⟨d0,d1⟩,⟨-,-,d2,d3⟩,⟨d4,-⟩,⟨d5,-⟩⟩:=d;have hnel:=kC.there W;have hv:bF P.s=cA/\cM T.M i=cA\/bF P.s=dA/\(bC P.n 0 1000000=cA/\cM T.M i=cA\/bC P.n 0 1000000=dA/\((∃u,((0:Int)<i/\0<i)/\tC W pb (po+(i-1)*2) (oA u)/\cM T.M i=eK u P.s)\/decide ((0:Int)<i)=cA/\decide (0<i)=cA/\cM T.M i=dA)):=by
       rw[HMA.o];cases bF P.s
       .exact Ca ⟨rfl,by simp⟩
       refine La ⟨rfl,?_⟩;cases bC P.n 0 1000000
       .exact Ca ⟨rfl,by simp⟩
       refine La ⟨rfl,?_⟩;by_cases z:0<i
       .obtain ⟨u,hp,U⟩:=G.o z;exact Ca ⟨u,⟨by omega,z⟩,U,by rw[hp];simp⟩
       exact La ⟨by simp;omega,by simp;omega,by rw[N.o (by omega)];rfl⟩
      obtain⟨f,L⟩|⟨f,⟨l,L⟩|⟨l,⟨u,⟨z,h0'⟩,U,L⟩|⟨hd,hd',L⟩⟩⟩:=hv
      all_goals
       have L:=bB L;rw[f]at K;try have d6:=kC.cells U
       try clear U
       refine wB (by kernel_rfl) (by kernel_rfl) ?_;repeat (go_big_quiet_step (first|(go_at_call 110;exact oC (K.o _))|(go_at_call 91;exact uC (rD (by assumption) _))))
       refine wpQuiet_nil ?_;rintro _ ⟨x,rfl⟩;go_wp2_with fail;go_meet;exact⟨by rw[L.o];rfl,x.h⟩
     obtain⟨rfl,i0⟩:=hcut;rename eA=>w7;have V:=bB (vB D.o i0);cases f4:cM T.M i
     .have J:=bB f4;go_wp2;go_ret;exact⟨oB (HMF.o J.o).symm,vB PW.o.B V.o⟩
     have J:cB (lI (cM T.M) (i+1)=dA):=by show _=_;rw[sL,M.o,f4];rfl
     go_wp2;exact⟨⟨i+1,by omega,by go_num,J.o,V.o⟩,by simp[intOf];omega⟩
    .have ei:i=yA T.M:=by omega
     have HMB:cB (dM T.M=dA):=by have:=M.o;rw[ei]at this;exact this
     replace T4:=bB (T4.o.z y.o);replace PW:=bB (PW.o.z y.o);replace B4:=bB (vB B4.o y.o);have P25:=bB (P24.o.z y.o);obtain⟨-,-,-,y3⟩:=T4.o.c4;go_wp2;generalize hwo:wr=wo at *;go_loopw [9,10,100] (λ_ _ j wr=>∃i:Nat,i<=yA T.Z/\j=lA mA i/\lI (mJ c.w t T.Z) i=dA/\uB wo wr) (λ_ _ j _=>yA T.Z-(intOf j).toNat)
     case atStart=>exact⟨0,Oa _,rfl,rfl,iD⟩
     case round=>
      obtain⟨i,hi,rfl,l0,e0⟩:=hrel;have M:=bB l0;have y:=bB e0;by_cases A:i<yA T.Z
      .obtain ⟨pb,po,rfl,m0,c0,c1⟩:=(P25.o.z y.o).at A;have HMF:cB _:=λh=>F.o (by rw[I.o,O.o];have:gL c.w t T.Z=cA:=wP h A;rw[this];simp);have HMA:cB (mJ c.w t T.Z i=(iM T.Z i&&rK T.Z[i].s&&bC T.Z[i].n 0 t&&decide (t-T.Z[i].n<c.w))):=uW A;have hsz:=n3 i A;have G:cB (0<i->∃u:jB,iM T.Z i=eK u T.Z[i].s/\tC wr pb (po+(i-1)*2) (oA u)):=λz=>by
        refine⟨_,jU z A,?_⟩;obtain⟨b',o',e,_,u0,_⟩:=(P25.o.z y.o).at (i:=i-1) (by omega)
        simp only[Qa,Addr.mk.injEq,Cc]at e;rw[e.1,e.2];exact u0
       have N:cB (i=0->iM T.Z i=dA):=λz=>by subst z;rfl
       generalize T.Z[i]=P at *;have K:=bB (λW=>KB P.s W hsz);have H:=bB (wF wr (vA #[oA P.s,lA mA P.n] 98));have MB:=bB (nB.new wr #[oA P.s,lA mA P.n] 98);go_upto_region 19 with fail;generalize wr.alloc (vA #[oA P.s,lA mA P.n] 98)=W at *;have D:=bB (vB y.o H.o);have TB:=bB (T4.o.z D.o);have PB:=bB (PW.o.z D.o);replace G:cB (0<i->∃u:jB,iM T.Z i=eK u P.s/\tC W pb (po+(i-1)*2) (oA u)):=λz=>by
        obtain⟨u,e1,e2⟩:=G.o z;exact⟨u,e1,(H.o.cell m0).trans e2⟩
       generalize wr.1.size=mb at *;go_cut [142] (λs wx=>s=qA (!(mJ c.w t T.Z i))/\uB W wx)
       case first=>
        have d:=λx:kC W=>(⟨(MB.o.z x.h).c2,(TB.o.z x.h).c4,(PB.o.z x.h).S.c2,(PB.o.z x.h).C.c6⟩:_/\_/\_/\_)
        simp only[forall_and]at d;obtain⟨⟨d0,d1⟩,⟨-,-,d2,d3⟩,⟨d4,-⟩,⟨d5,-⟩⟩:=d;have hnel:=kC.there W;have hv:rK P.s=cA/\mJ c.w t T.Z i=cA\/rK P.s=dA/\(bC P.n 0 t=cA/\mJ c.w t T.Z i=cA\/bC P.n 0 t=dA/\(0<=P.n/\P.n<=t)/\(c.w<=t-P.n/\mJ c.w t T.Z i=cA\/decide (c.w<=t-P.n)=cA/\((∃u,((0:Int)<i/\0<i)/\tC W pb (po+(i-1)*2) (oA u)/\mJ c.w t T.Z i=eK u P.s)\/decide ((0:Int)<i)=cA/\decide (0<i)=cA/\mJ c.w t T.Z i=dA))):=by
         rw[HMA.o];cases rK P.s
         .exact Ca ⟨rfl,by simp⟩
         refine La ⟨rfl,?_⟩;cases hb:bC P.n 0 t
         .exact Ca ⟨rfl,by simp⟩
         refine La ⟨rfl,xJ hb,?_⟩;by_cases g:c.w<=t-P.n
         .exact Ca ⟨g,by rw[Ub (show ¬t-P.n<c.w by omega)];simp⟩
         refine La ⟨by simpa using g,?_⟩;rw[Ac (show t-P.n<c.w by omega)];by_cases z:0<i
         .obtain ⟨u,hp,U⟩:=G.o z;exact Ca ⟨u,⟨by omega,z⟩,U,by rw[hp];simp⟩
         exact La ⟨by simp;omega,by simp;omega,by rw[N.o (by omega)];rfl⟩
        obtain⟨f,L⟩|⟨f,⟨l,L⟩|⟨l,⟨r0,r1⟩,⟨g,L⟩|⟨g,⟨u,⟨z,h0'⟩,U,L⟩|⟨hd,hd',L⟩⟩⟩⟩:=hv
        all_goals
         have L:=bB L;rw[f]at K;try have d6:=kC.cells U
         try clear U
         refine wB (by kernel_rfl) (by kernel_rfl) ?_;repeat (go_big_quiet_step (first|(go_at_call 111;exact oC (K.o _))|(go_at_call 91;exact uC (rD (by assumption) _))))
         refine wpQuiet_nil ?_;rintro _ ⟨x,rfl⟩;go_wp2_with fail;go_meet;exact⟨by rw[L.o];rfl,x.h⟩
       obtain⟨rfl,i0⟩:=hcut;rename eA=>w7;have V:=bB (vB D.o i0);cases f4:mJ c.w t T.Z i
       .have J:=bB f4;go_wp2;go_ret;exact⟨oB (HMF.o J.o).symm,vB PW.o.B V.o⟩
       have J:cB (lI (mJ c.w t T.Z) (i+1)=dA):=by show _=_;rw[sL,M.o,f4];rfl
       go_wp2;exact⟨⟨i+1,by omega,by go_num,J.o,V.o⟩,by simp[intOf];omega⟩
      .have ei:i=yA T.Z:=by omega
       have HSS:cB (gL c.w t T.Z=dA):=by have:=M.o;rw[ei]at this;exact this
       have HNX:cB (lI (pN c.w t v) (k+1)=dA):=by
        show _=_;rw[sL,HOK.o,I.o,O.o,HMB.o,HSS.o];rfl
       go_wp2;exact⟨⟨k+1,by omega,by go_num,HNX.o,vB B4.o y.o⟩,by simp[intOf];omega⟩
  have ek:k=yA v:=by omega
  have HEND:cB (nC c t v=dA):=by show _=_;rw[HSB2.o];have:=HOK.o;rw[ek]at this;exact this
  go_wp2;go_ret;exact⟨oB HEND.o.symm,PW.o.B⟩
def aHy(w:eA)(e:Ending)(t:fB):Prop:=∃a c b d,e=uA (tA #[oA t.N,zA t.L,pA a (yA t.M) c,pA b (yA t.Z) d])/\jC w a t.M/\jC w b t.Z
def bY(q:Int)(a:mC)(p:Nat)(l:List fB)(name:jB)(w:eA)(N:xC w a l)(O:yA l<=1000000000):
 Calls prog 61 #[tA #[zA q,pA a (yA l) p],oA name] w λe X=>aHy X e (aC l name)/\uB w X:=by
 have I:cB (xC w a l):=N;have x:cB (aC l name=(dD (·.N) name l).getD ⟨name,-1,[],[]⟩):=rfl;clear N;go_enter func61,ntmps61;go_wp2;have M:cB _:=bB (by have:=nB.new (w.alloc (vA #[zA q,pA a (yA l) p] 40)) #[oA ⟨#[]⟩,zA 0,pA aA 0 0,pA aA 0 0] 94;simpa using this);have L:cB (uB w ((w.alloc (vA #[zA q,pA a (yA l) p] 40)).alloc (vA #[oA ⟨#[]⟩,zA 0,pA aA 0 0,pA aA 0 0] 94))):=vB zB zB;generalize h:(w.alloc (vA #[zA q,pA a (yA l) p] 40)).alloc (vA #[oA ⟨#[]⟩,zA 0,pA aA 0 0,pA aA 0 0] 94)=W at *;clear h;go_loopw [6,10] (λ_ i wr=>∃k:Nat,k<=yA l/\i=zA k/\cB (∀j(h:j<k)(J:j<yA l),l[j].N≠name)/\uB W wr) (λ_ i _=>yA l-(intOf i).toNat)
 case atStart=>exact⟨0,Oa _,rfl,(λj h=>absurd h (by omega)),iD⟩
 case round=>
  obtain⟨k,G,rfl,F,m⟩:=hrel;have E:cB _:=m;have n:cB (nB wr (w.1.size+1) #[oA ⟨#[]⟩,zA 0,pA aA 0 0,pA aA 0 0] 94):=M.o.z m;have G:=aB n.o;have R:tC wr (w.1.size+1) 0 (oA ⟨#[]⟩):=n.o.cell 0;have S:tC wr (w.1.size+1) 1 (zA 0):=n.o.cell 1;have U:tC wr (w.1.size+1) 2 (pA aA 0 0):=n.o.cell 2;have V:tC wr (w.1.size+1) 3 (pA aA 0 0):=n.o.cell 3;have O:=n.o.free 0;have O:=n.o.free 1;have O:=n.o.free 2;have O:=n.o.free 3;clear m M;by_cases A:k<yA l
  .obtain ⟨b,o,y,C,z,D,rfl,B,Y,Z,z2,z3,P,Q⟩:=I.o.at A;have r:cB _:=vB L.o E.o;have c:=(r.o.cell B).trans Y;have d:=(r.o.cell B).trans Z;have f:=(r.o.cell B).trans z2;have g:=(r.o.cell B).trans z3;clear Y Z z2 z3;have O:cB (dD (·.N) name l=if l[k].N=name then some l[k] else dD (·.N) name (l.drop (k+1))):=by
    show _=_;rw[ED k F.o,Cb A,rT]
   have u:cB (l[k].N≠name->∀j(h:j<k+1)(J:j<yA l),l[j].N≠name):=λK j h J=>by
    by_cases e:j=k
    .subst e;exact K
    exact F.o j (by omega) J
   have h:cB (jC w y l[k].M):=P;have J:cB (jC w z l[k].Z):=Q;clear P Q;generalize l[k]=T at *;by_cases t:T.N=name
   .have I:=(kE _ _).2 t;have H:cB (aC l name=T):=by show _=_;rw[x.o,O.o,Ma t];rfl
    clear t;go_wp2;have s:uB w (((((wr.setCell (dB (w.1.size+1) 0) (oA T.N)).setCell (dB (w.1.size+1) 1) (zA T.L)).setCell (dB (w.1.size+1) 2) (pA y (yA T.M) C)).setCell (dB (w.1.size+1) 3) (pA z (yA T.Z) D)).alloc (vA #[oA T.N,zA T.L,pA y (yA T.M) C,pA z (yA T.Z) D] 94)):=vB (((((r.o.setCell (by simp) _).setCell (by simp) _).setCell (by simp) _).setCell (by simp) _)) zB;refine bodyPost_ret (v:=tA #[oA T.N,zA T.L,pA y (yA T.M) C,pA z (yA T.Z) D]) (by simp[results,results61,go_sem,R,S,U,V,G]) rfl ⟨?_,s⟩;rw[H.o];exact⟨y,C,z,D,rfl,h.o.z s,J.o.z s⟩
   have I:=zD t;have G:cB _:=u.o t;clear t;go_wp2;exact⟨⟨k+1,by omega,by go_num,G,vB E.o zB⟩,by simp[intOf];omega⟩
  .have H:cB (aC l name=⟨name,-1,[],[]⟩):=by
    show _=_;rw[x.o,ED k F.o,Yb (by omega)];rfl
   have r:cB _:=vB L.o E.o;go_wp2;refine bodyPost_ret (v:=tA #[oA name,zA (-1),pA aA 0 0,pA aA 0 0]) (by simp[results,results61,go_sem,R,S,U,V]) rfl ⟨?_,(((((r.o.setCell (by simp) _).setCell (by simp) _).setCell (by simp) _).setCell (by simp) _))⟩;rw[H.o];exact⟨aA,0,aA,0,rfl,Ca rfl,Ca rfl⟩
def LX(c:iC)(t:fB)(q o:mC)(v r:Nat)(m:jB)(w:eA)(G:jC w q t.M)(H:jC w o t.Z)(C:aCy t.Z)(e:yA t.M<=1000000000)(e:yA t.Z<=1000000000):
 dF 120 #[rE c,tA #[oA t.N,zA t.L,pA q (yA t.M) v,pA o (yA t.Z) r],oA m] w (.tuple #[zA (qE c t m).1,zA (qE c t m).2]):=by
 unfold rE;by_cases z:m.toList.isEmpty=dA
 .have p:cB (qE c t m=(((yA t.Z:Nat):Int),if t.L<0 then c.tl else t.L)):=by show _=_;unfold qE;rw[Ma z]
  clear G H C;by_cases R:t.L<0
  .go_enter func120,ntmps120;go_wp2;go_ret2;exact⟨fL (by rw[p.o]) (by rw[p.o];exact(Ma R).symm),vB zB zB⟩
  have f:cB (¬t.L<0):=R;go_enter func120,ntmps120;go_wp2;go_ret2;exact⟨fL (by rw[p.o]) (by rw[p.o];have e:=f.o;exact(Ja (by omega)).symm),vB zB zB⟩
 have Y:m.toList.isEmpty=cA:=by simpa using z
 have p:cB (qE c t m=(((bJ cE t.Z m:Nat):Int),xG t.M m c.ml)):=by show _=_;unfold qE;rw[Ja z]
 have U:cB (jC w q t.M):=G;have V:cB (jC w o t.Z):=H;have B:cB (aCy t.Z):=C;clear G H C z;go_enter func120,ntmps120;go_wp2;have M:cB _:=bB (by have:=nB.new (w.alloc (vA #[zA c.w,zA c.tl,zA c.ml,zA c.sh,zA c.ha,zA c.sg] 24)) #[oA t.N,zA t.L,pA q (yA t.M) v,pA o (yA t.Z) r] 94;simpa using this);have A:cB (uB w ((w.alloc (vA #[zA c.w,zA c.tl,zA c.ml,zA c.sh,zA c.ha,zA c.sg] 24)).alloc (vA #[oA t.N,zA t.L,pA q (yA t.M) v,pA o (yA t.Z) r] 94))):=vB zB zB;generalize (w.alloc (vA #[zA c.w,zA c.tl,zA c.ml,zA c.sh,zA c.ha,zA c.sg] 24)).alloc (vA #[oA t.N,zA t.L,pA q (yA t.M) v,pA o (yA t.Z) r] 94)=W at *;go_loopw [9,11,32] (λl _ i wr=>∃k:Nat,k<=yA t.M/\i=zA k/\l=zA (xG (t.M.take k) m c.ml)/\uB W wr) (λ_ _ i _=>yA t.M-(intOf i).toNat)
 case atStart=>exact⟨0,Oa _,rfl,rfl,iD⟩
 case round=>
  obtain⟨k,e,rfl,rfl,a⟩:=hrel;have d:cB _:=a;clear a;by_cases y:k<yA t.M
  .obtain ⟨Z,po,rfl,E,z0,z1⟩:=(U.o.z (vB A.o d.o)).at y;have g:cB (xG (t.M.take (k+1)) m c.ml=if t.M[k].s.toList==m.toList then t.M[k].n else xG (t.M.take k) m c.ml):=jv _ _ _ _ y;generalize t.M[k]=P at *;generalize xG (t.M.take k) m c.ml=T at *;by_cases h:(P.s.toList==m.toList)=dA
   .have f:cB (xG (t.M.take (k+1)) m c.ml=P.n):=by show _=_;rw[g.o,Ma h]
    clear g;go_wp2;exact⟨⟨k+1,by omega,by go_num,by rw[f.o],vB d.o zB⟩,by simp[intOf];omega⟩
   have D:(P.s.toList==m.toList)=cA:=by simpa using h
   have f:cB (xG (t.M.take (k+1)) m c.ml=T):=by show _=_;rw[g.o,Ja h]
   clear g h;go_wp2;exact⟨⟨k+1,by omega,by go_num,by rw[f.o],vB d.o zB⟩,by simp[intOf];omega⟩
  have Q:t.M.take k=t.M:=Ra (by omega);rw[Q];clear Q;generalize xG t.M m c.ml=e at *;have N:cB (nB wr (w.1.size+1) #[oA t.N,zA t.L,pA q (yA t.M) v,pA o (yA t.Z) r] 94):=M.o.z d.o;have J:cB _:=vB A.o d.o;have e:tC wr (w.1.size+1) 3 (pA o (yA t.Z) r):=N.o.cell 3;clear M A d;generalize F:wr=S at *;clear F;go_wp2;clear e N;go_loopw [12,14,46] (λn _ i wr=>∃k:Nat,k<=yA t.Z/\i=zA k/\n=zA (bJ cE (t.Z.take k) m:Nat)/\uB S wr) (λ_ _ i _=>yA t.Z-(intOf i).toNat)
  case atStart=>exact⟨0,Oa _,rfl,rfl,iD⟩
  case round=>
   obtain⟨j,e,rfl,rfl,a⟩:=hrel;have d:cB _:=a;clear a;by_cases b:j<yA t.Z
   .obtain ⟨Z,po,rfl,E,z0,z1⟩:=(V.o.z (vB J.o d.o)).at b;have g:cB (bJ cE (t.Z.take (j+1)) m=bJ cE (t.Z.take j) m+if (cE t.Z[j].s).toList==m.toList then 1 else 0):=yn _ _ _ b;have K:cB (∀W,dF 175 #[oA t.Z[j].s] W (oA (cE t.Z[j].s))):=λW=>BA t.Z[j].s W (B.o j b);have X:bJ cE (t.Z.take j) m<=1000000000:=by have:=ZL cE (t.Z.take j) m;rw[Hb]at this;omega
    generalize t.Z[j]=P at *;generalize cE P.s=mk at *;generalize bJ cE (t.Z.take j) m=L at *;go_wp2_with fail;apply lC (K.o _);intro e x;have u:cB _:=vB d.o (vB zB x);clear x K;by_cases h:(mk.toList==m.toList)=dA
    .have f:cB (bJ cE (t.Z.take (j+1)) m=L+1):=by show _=_;rw[g.o,Ma h]
     clear g;go_wp2;exact⟨⟨j+1,by omega,by go_num,by rw[f.o];go_num,u.o⟩,by simp[intOf];omega⟩
    have D:(mk.toList==m.toList)=cA:=by simpa using h
    have f:cB (bJ cE (t.Z.take (j+1)) m=L):=by show _=_;rw[g.o,Ja h];rfl
    clear g h;go_wp2;exact⟨⟨j+1,by omega,by go_num,by rw[f.o],u.o⟩,by simp[intOf];omega⟩
   have O:t.Z.take j=t.Z:=Ra (by omega);rw[O];clear O;go_wp2;go_ret2;exact⟨fL (by rw[p.o]) (by rw[p.o]),vB J.o d.o⟩
def CI{w e:eA}{x y:Array Value}{b d:TypeId}(f:Below ((w.alloc (vA x b)).alloc (vA y d)).1.size ((w.alloc (vA x b)).alloc (vA y d)) e):
 nB e w.1.size x b/\nB e (w.1.size+1) y d/\uB w e:=by
 refine⟨?_,?_,vB (vB zB zB) f⟩;exact (nB.z (nB.z (g:=w.1.size) (heap_alloc_new w (vA x b)) iD) zB).z f;have h:=nB.z (g:=(w.alloc (vA x b)).1.size) (heap_alloc_new (w.alloc (vA x b)) (vA y d)) f;simpa using h
def aDa(w:eA)(b:Nat)(a:mC)(n cap:Nat)(c k cr fl:Int)(dn:Bool):Prop:=nB w b #[pA a n cap,zA c,zA k,zA cr,zA fl,qA dn] 35
structure VG(w:World)(a:mC)(fs:List iB)(c:Int)(op:zN):Prop where
 files:tB w a fs
 asc:pV fs
 len:yA fs≤1000
 sum:(pC fs:Int)≤c
 cap:c≤1000000000
 data:op.data.size≤200000000
def YZ(w:eA)(a:mC)(cap:Nat)(fs:List iB)(c k cr fl:Int)(dn:Bool)(op:zN):Prop:=
 Calls prog 99 #[tA #[pA a (yA fs) cap,zA c,zA k,zA cr,zA fl,qA dn],tA #[zA op.K,oA op.N,oA op.tq,oA op.data,zA op.size]] w λe f=>
  ∃d b,e=uA (.tuple #[.slice d (yA (tU fs c op).2) b,zA (tU fs c op).1])/\tB f d (tU fs c op).2/\uB w f
section
variable {w:eA} {a:mC} {cap:Nat} {fs:List iB} {c k cr fl:Int} {dn:Bool} {op:zN}
theorem BV{d:Int}{t:jB}{x:Int}(h:nE t fs 0=x)(w:eA)(f:tB w a fs)(b:yA fs<=maxLen):
 dF 41 #[tA #[pA a (yA fs) cap,zA c,zA d,zA cr,zA fl,qA dn],oA t] w (zA x):=h ▸ aY a cap fs c d cr fl dn t w f b
theorem ef(f:iB)(j:tB w a fs)(l:yA fs<=1048576):Calls prog 169 #[pA a (yA fs) cap,tA #[oA f.N,oA f.data,zA f.Y]] w λe g=>∃d b,e=uA (.slice d (yA (dH fs f)) b)/\tB g d (dH fs f)/\uB w g:=
 (qt a cap fs f w j l).mono λe g ⟨v,i,n,h⟩=>by obtain⟨d,b,rfl,m⟩:=mH n;exact⟨d,b,i,m.files,h⟩
theorem aLj{x:Nat×List iB}{f:iB}(_:x=(0,dH fs f))(h:tB w a fs)(i:yA fs<=1048576):Calls prog 169 #[pA a (yA fs) cap,tA #[oA f.N,oA f.data,zA f.Y]] w λe g=>∃d b,e=uA (.slice d (yA (dH fs f)) b)/\tB g d (dH fs f)/\uB w g:=ef f h i
theorem YY(t:jB)(i:tB w a fs)(j:yA fs<=1048576):Calls prog 170 #[pA a (yA fs) cap,oA t] w λe f=>∃d b,e=uA (.slice d (yA (yC fs t)) b)/\tB f d (yC fs t)/\uB w f:=
 (CY a cap fs t w i j).mono λe f ⟨v,h,m,g⟩=>by obtain⟨d,b,rfl,l⟩:=mH m;exact⟨d,b,h,l.files,g⟩
theorem ZV(d:pV fs)(f:op.K≠1)(g:dJ fs op.N (gC op.N fs)=dA):∃(e:gC op.N fs<yA fs)(b:iB),fs[gC op.N fs]=b/\nE op.N fs 0=(gC op.N fs:Int)/\
 tU fs c op=if op.K=2 then(if c<pC fs+op.data.size then(3,fs) else(0,dH fs ⟨b.N,b.data++op.data,b.Y⟩)) else if op.K=3 then(0,dH fs ⟨b.N,b.data,b.data.size⟩)
  else if op.K=4 then(if bC op.size 0 b.data.size=dA then(0,dH fs ⟨b.N,b.data.extract 0 op.size.toNat,op.size⟩) else(6,fs)) else if op.K=5 then(0,dH (yC fs op.N) ⟨op.tq,b.data,b.Y⟩) else(0,yC fs op.N):=by grind [pV,dJ,gC,nE,tU,pC,dH,bC,yC,BR,JF,wZ,xI,WC,aR]
end
def aIx{fs:List iB}{c:Int}{op:zN}(d:op.K≠1)(b:(tU fs c op).1=0):dJ fs op.N (gC op.N fs)=dA:=by
 unfold tU at b;simp only[Ja d]at b;split at b
 .cases b
 split at b
 .cases b
 simpa using ‹¬_=cA›
def aPk(w:eA)(a:mC)(cap:Nat)(fs:List iB)(c k cr fl:Int)(dn:Bool)(op:zN)(h:VG w a fs c op)(t:op.K=1)(d:(tU fs c op).1=0):YZ w a cap fs c k cr fl dn op:=by
 unfold YZ;have u:nE op.N fs 0 = -1/\¬(yA fs:Int)=1000/\tU fs c op=(0,dH fs ⟨op.N,kA,0⟩):=by
  unfold tU at d |-
  simp only[t,Td]at d |-
  split at d
  .cases d
  split at d
  .cases d
  rename_i y F;have B:dJ fs op.N (gC op.N fs)=cA:=by simpa using y
  rw[cX (f:=⟨op.N,kA,0⟩) h.asc B,Ja y,Ja F];exact⟨by rw[wZ h.asc (xI op.N h.asc),B];rfl,by omega,rfl⟩
 obtain⟨n,I,p⟩:=u;have x:=bB h.files;have g:=bB n;have A:=h.len;have v:yA fs<=maxLen:=by simp[maxLen];omega
 obtain⟨J,G,N,E,M⟩:=op;clear h n d;dsimp only at t g p |-
 subst t;replace p:=bB p;go_enter func99,ntmps99;go_wp2_with fail;apply lC (BV g.o _ ((x.o.z zB).z zB) v);intro O j;obtain⟨m,o,b⟩:=CI j;have C:=bB b;have r:=bB (x.o.z b);obtain⟨K,L,-⟩:=o.c5;obtain⟨H,-⟩:=m.c6;clear j m o b;go_wp2_with(go_at_call 169;refine(ef ⟨G,kA,0⟩ r.o (by omega)).mono ?_;rintro e P ⟨D,i,rfl,z,l⟩;have s:=bB z;have q:=bB (vB C.o l);clear z l);go_ret2;rw[p.o];exact⟨D,i,rfl,s.o,q.o⟩
def aEj(w:eA)(a:mC)(cap:Nat)(fs:List iB)(c k cr fl:Int)(dn:Bool)(op:zN)(h:VG w a fs c op)(j:op.K=3\/op.K=6)(N:dJ fs op.N (gC op.N fs)=dA):YZ w a cap fs c k cr fl dn op:=by
 unfold YZ;obtain⟨K,d,A,z,B⟩:=ZV (c:=c) h.asc (by omega) N;have x:op.K=3/\tU fs c op=(0,dH fs ⟨d.N,d.data,d.data.size⟩)\/op.K=6/\tU fs c op=(0,yC fs op.N):=by
  obtain j|j:=j;exact Ca ⟨j,by rw[B];simp[j]⟩;exact La ⟨j,by rw[B];simp[j]⟩
 have H:=bB h.files;have s:=bB z;have L:=h.len;have F:yA fs<=maxLen:=by simp[maxLen];omega
 have t:=bB A;obtain⟨G,V,G,R,G⟩:=op;clear h j z N B A;dsimp only at x s t K |-
 obtain⟨rfl,p⟩|⟨rfl,p⟩:=x
 all_goals
  have p:=bB p;go_enter func99,ntmps99;go_wp2_with fail;apply lC (BV s.o _ ((H.o.z zB).z zB) F);intro l v;obtain⟨y,n,g⟩:=CI v;have G:=bB g;have m:=bB (H.o.z g);obtain⟨h,h,h,h,h⟩:=n.c5;obtain⟨Y,-⟩:=y.c6;obtain⟨b,o,rfl,Z,O,P,Q⟩:=m.o.at K;rw[t.o]at O P Q;have S:=aB n;have T:¬b=l.1.size:=by omega
  have U:¬w.1.size=l.1.size:=by omega
  have M:¬w.1.size+1=l.1.size:=by omega
  have J:w.1.size<l.1.size:=by omega
  try have D:=bB (λW(E:uB l W)=>aLj (cap:=cap) p.o (m.o.z E) (by omega))
  have C:=bB (λW(E:uB l W)=>YY (cap:=cap) V (m.o.z E) (by omega));clear v y n g;go_wp2_with(first
   |(go_at_call 169;refine(D.o _ zB).mono ?_;rintro e X ⟨I,i,rfl,u,f⟩;have r:=bB u;have q:=bB (vB G.o (vB zB f));clear u f)
   |(go_at_call 170;refine(C.o _ zB).mono ?_;rintro e X ⟨I,i,rfl,u,f⟩;have r:=bB u;have q:=bB (vB G.o (vB zB f));clear u f))
  go_ret2;rw[p.o];exact⟨I,i,rfl,r.o,q.o⟩
def zj(w:eA)(a:mC)(P:Nat)(f:List iB)(c k cr fl:Int)(dn:Bool)(n:zN)(h:VG w a f c n)(hk:n.K=2)(hq:dJ f n.N (gC n.N f)=dA)(F:(tU f c n).1=0):YZ w a P f c k cr fl dn n:=by
 unfold YZ;obtain⟨hi,d,r,B,G⟩:=ZV (c:=c) h.asc (by omega) hq;rw[Ma hk]at G;have X:=bB h.files;have M:=bB B;obtain⟨-,-,hlen,hsum,hcap,hdat⟩:=h;have C:yA f<=maxLen:=by simp[maxLen];omega
 have V:pC f<=1000000000:=by omega
 have hdz:d.data.size<=1000000000:=by
  have h1:=bK f _ hi;have h2:=yI f (gC n.N f+1);rw[r]at h1;omega
 have N:=bB r;obtain⟨kd,nm,tq,l,sz⟩:=n;dsimp only at *;subst hk;have Q:¬c<(pC f:Int)+(l.size:Int)/\tU f c ⟨2,nm,tq,l,sz⟩=(0,dH f ⟨d.N,d.data++l,d.Y⟩):=by
  rw[G]at F |-
  split at F
  .cases F
  exact ⟨‹_›,Ja ‹_›⟩
 clear B hq G r F;go_enter func99,ntmps99;go_wp2_with fail;apply lC (BV M.o _ ((X.o.z zB).z zB) C);intro g v;obtain⟨q,m,i⟩:=CI v;have K:=bB q;have O:=bB m;have I:=bB i;have s:=bB (X.o.z i);obtain⟨o0,o1,o2,o3,o4⟩:=m.c5;obtain⟨d0,-⟩:=q.c6;obtain⟨b,o,rfl,hb,Z,c1,c2⟩:=s.o.at hi;rw[N.o]at Z c1 c2;have hdl:=aB m;have S:¬b=g.1.size:=by omega
 have T:¬w.1.size=g.1.size:=by omega
 have D:¬w.1.size+1=g.1.size:=by omega
 have hdl2:w.1.size<g.1.size:=by omega
 clear v q m i;go_wp2_with fail;have j:uB g (g.alloc (vA #[oA d.N,oA d.data,lA mA d.Y] 104)):=zB;have A:nB (g.alloc (vA #[oA d.N,oA d.data,lA mA d.Y] 104)) g.1.size #[oA d.N,oA d.data,lA mA d.Y] 104:=heap_alloc_new _ _;generalize g.alloc (vA #[oA d.N,oA d.data,lA mA d.Y] 104)=Y at *;have t:=bB (λx:kC Y=>(⟨(s.o.z j).z x.h,nB.z (nB.z K.o j) x.h,nB.z (nB.z O.o j) x.h,A.z x.h,vB (vB I.o j) x.h⟩:tB x.w' _ f/\nB x.w' _ _ _/\nB x.w' _ _ _/\nB x.w' _ _ _/\uB w x.w'));have p:=λx=>(t.o x).2.1.c6;have po:=λx=>(t.o x).2.2.1.c5.2.2.2.1;simp only[forall_and]at p;obtain⟨p0,p1,p2,p3,p4,p5⟩:=p;have U:=kC.there Y;clear A j Z c1 c2 o0 o1 o2 o3 o4 d0 S T D;obtain⟨R,H⟩:=Q;have H:=bB H;refine wB (by kernel_rfl) (by kernel_rfl) ?_;repeat (go_big_quiet_step (first|(go_at_call 97;exact oC (AE _ _ _ _ _ _ _ _ _ (t.o _).1 C V))))
 refine wpQuiet_nil ?_;rintro _ ⟨y,rfl⟩;have E:=bB (t.o y);have d0:=p0 y;have o3:=po y;clear p0 p1 p2 p3 p4 p5 po U t;generalize y.w'=W at *;clear y;obtain⟨q0,q1,q2⟩:=E.o.2.2.2.1.c3;have r1:=E.o.2.2.2.1.free;have hne1:¬g.1.size=w.1.size:=by omega
 go_wp2_with(go_at_call 169;refine(ef ⟨d.N,d.data++l,d.Y⟩ (E.o.1.setCell (by show g.1.size≠b;omega) _) (by omega)).mono ?_;rintro e w5 ⟨a5,u,rfl,h5,z⟩;have L:=bB h5;have J:=bB (vB (E.o.2.2.2.2.setCell (by show w.1.size<=g.1.size;omega) _) z);clear h5 z);go_ret2;rw[H.o];exact⟨a5,u,rfl,L.o,J.o⟩
def zk(w:eA)(a:mC)(m:Nat)(i:List iB)(c k cr fl:Int)(dn:Bool)(s:zN)(h:VG w a i c s)(J:s.K=5)(G:dJ i s.N (gC s.N i)=dA):YZ w a m i c k cr fl dn s:=by
 unfold YZ;obtain⟨W,d,B,A,R⟩:=ZV (c:=c) h.asc (by omega) G;have S:=bB h.files;have H:=bB A;have I:=h.len;have O:yA i<=maxLen:=by simp[maxLen];omega
 have I:=bB B;obtain⟨U,r,q,M,U⟩:=s;dsimp only at *;subst J;have EQ:cB (tU i c ⟨5,r,q,M,U⟩=(0,dH (yC i r) ⟨q,d.data,d.Y⟩)):=by show _=_;rw[R];simp
 clear h A G R B;go_enter func99,ntmps99;go_wp2_with fail;apply lC (BV H.o _ ((S.o.z zB).z zB) O);intro f x;obtain⟨n,l,g⟩:=CI x;have E:=bB n;have K:=bB l;have D:=bB g;have u:=bB (S.o.z g);obtain⟨h,G,O,Y,Z⟩:=l.c5;obtain⟨d0,-⟩:=n.c6;obtain⟨b,o,rfl,J,T,U,V⟩:=u.o.at W;rw[I.o]at T U V;have I:=aB l;have P:¬b=f.1.size:=by omega
 have Q:¬w.1.size=f.1.size:=by omega
 have C:¬w.1.size+1=f.1.size:=by omega
 have I:w.1.size<f.1.size:=by omega
 have z:yA (yC i r)<=1048576:=by have:=rU i r;omega
 have L:=bB (λW(I:uB f W)=>YY (cap:=m) r (u.o.z I) (by omega));clear x n l g;generalize yC i r=I at *;go_wp2_with fail;have j:uB f (f.alloc (vA #[oA q,oA d.data,zA d.Y] 104)):=zB;have p:nB (f.alloc (vA #[oA q,oA d.data,zA d.Y] 104)) f.1.size #[oA q,oA d.data,zA d.Y] 104:=heap_alloc_new _ _;generalize f.alloc (vA #[oA q,oA d.data,zA d.Y] 104)=I at *;have t:=bB j;have J:=bB p;obtain⟨I,-⟩:=(nB.z E.o j).c6;obtain⟨-,I,-⟩:=(nB.z K.o j).c5;obtain⟨I,I,I⟩:=p.c3;clear p j T U V h G O Y Z d0 P Q C;go_region_with (first
  |(go_at_call 170;refine(L.o _ (vB t.o iD.drew)).mono ?_;rintro e h ⟨h,X,rfl,Y,y⟩;have F:=bB Y;obtain⟨h,h,h⟩:=(J.o.z (vB iD.drew y)).c3)
  |(go_at_call 169;refine(ef ⟨q,d.data,d.Y⟩ F.o z).mono ?_;rintro e h ⟨h,v,rfl,Z,N⟩;have G:=bB Z))
 all_goals
  clear Z Y;go_wp2;go_ret2;rw[EQ.o];exact⟨h,v,rfl,G.o,vB (vB D.o t.o) (vB (vB iD.drew y) N)⟩
def aJk(w:eA)(a:mC)(d:Nat)(e:List iB)(c k f i:Int)(g:Bool)(b:zN)(h:VG w a e c b)(j:bC b.K 1 6=dA)(q:b.K≠4)(m:(tU e c b).1=0):YZ w a d e c k f i g b:=by
 have r:1<=b.K/\b.K<=6:=by simpa[bC]using j
 by_cases n:b.K=1
 .exact aPk w a d e c k f i g b h n m
 have l:=aIx n m;by_cases o:b.K=2
 .exact zj w a d e c k f i g b h o l m
 by_cases p:b.K=5
 .exact zk w a d e c k f i g b h p l
 exact aEj w a d e c k f i g b h (by omega) l
