import Derived.Test.YtiegonaogehghaaGreatDoorJ17
import Derived.Test.YtiegonaogehghaaGreatDoorJ16
set_option maxRecDepth 100000
set_option maxHeartbeats 8000000
open Bool renaming false->cA,true->dA
open Option renaming none->aA
open ByteArray renaming empty->kA
open List renaming length->yA
namespace Go.Proofs.YtiegonaogehghaaGreatDoor
open Value renaming slice->pA,agg->tA,bool->qA,string->oA
open Go renaming World->eA
open Obj renaming cells->vA
open Ending renaming returned->uA
open Go.RowKit Tryz
def aAr(a:List iB):Prop:=∀i(h:i<yA a),a[i].s.size<=1000000000
def aFy(a:List fB):Prop:=∀i(h:i<yA a),a[i].N.size<=maxLen/\aAr a[i].M/\aAr a[i].Z/\yA a[i].M<=1000000000/\yA a[i].Z<=1000000000
structure PS(w W:World)(c:gC)(now:Int)(a:jC)(n cap:Nat):Prop where
 C:gB W w.1.size #[zA c.w,zA c.tl,zA c.ml,zA c.sh,zA c.ha,zA c.sg] 24
 S:gB W (w.1.size+1) #[zA now,pA a n cap] 40
 B:tB w W
theorem PS.z{w W f:eA}{c:gC}{d:Int}{a:jC}{n b:Nat}(h:PS w W c d a n b)(e:tB W f):PS w f c d a n b:=⟨h.C.z e,h.S.z e,vB h.B e⟩
theorem jH(c:gC)(t:Int)(a:jC)(cap:Nat)(v:List fB)(w:eA)(h:uC w a v)(hb:aFy v)(n:yA v<=1000000000):
 vE 49 #[jE c,tA #[zA t,pA a (yA v) cap]] w (qA (kC c t v)):=by
 have G:=cB (λW=>yJ c W);have n:bB (kC c t v=(cF c&&zB t 0 1000000000000&&decide (yA v<=10000) &&tM c.w t v)):=rfl;have O:=cB h;have Y:=cB hb;clear h hb;unfold jE at *;have B:(cF c=cA\/cF c=dA/\(zB t 0 1000000000000=cA\/zB t 0 1000000000000=dA/\(10000:Int)<yA v))/\kC c t v=cA\/cF c=dA/\zB t 0 1000000000000=dA/\¬(10000:Int)<yA v/\kC c t v=tM c.w t v:=by
  rw[n.o];cases cF c<;>cases zB t 0 1000000000000<;>simp
  by_cases h:(10000:Int)<yA v
  .exact Ca ⟨h,λh'=>by omega⟩
  exact La ⟨by omega,λ_=>by omega⟩
 clear n;have C:=fun{W:eA}(hb:Below _ (eA.alloc (eA.alloc w (vA #[zA c.w,zA c.tl,zA c.ml,zA c.sh,zA c.ha,zA c.sg] 24)) (vA #[zA t,pA a (yA v) cap] 40)) W)=>cB (show PS w W c t a (yA v) cap from⟨((gB.new _ _ _).alloc _).z hb,by have:=(gB.new (w.alloc (vA #[zA c.w,zA c.tl,zA c.ml,zA c.sh,zA c.ha,zA c.sg] 24)) #[zA t,pA a (yA v) cap] 40).z hb;simpa using this,vB (vB yB yB) hb⟩);obtain⟨I|⟨I,J|⟨J,n⟩⟩,E⟩|⟨I,J,n,E⟩:=B
 rotate_left 3;rotate_left 1;iterate 3
  .have E:=cB E
   rw[I]at G
   go_enter func49,ntmps49
   go_wp2_with(first
    |(go_at_call 38;apply hC (G.o _);intro w1 n;have B:=C n;clear n C;obtain⟨S,U⟩:=B.o.S.c2)
    |(go_at_call 90;refine hC (xD (by assumption) _) ?_;rintro w' rfl))
   go_ret
   exact⟨oB (by rw[E.o]),B.o.B⟩
 have HSB2:=cB E;obtain⟨Z,Z⟩:=zJ J;rw[I]at G;clear E;go_enter func49,ntmps49;go_wp2_with(first
  |(go_at_call 38;apply hC (G.o _);intro w1 n;have B:=C n;clear n C;obtain⟨S,U⟩:=B.o.S.c2)
  |(go_at_call 90;apply hC (xD J _);rintro w' rfl))
 clear S U;go_loopw [5,6,7,8,9,10,29] (λ_ _ _ _ _ _ i wr=>∃k:Nat,k<=yA v/\i=zA k/\dI (dN c.w t v) k=dA/\tB w' wr) (λ_ _ _ _ _ _ i _=>yA v-(intOf i).toNat)
 case atStart=>exact⟨0,Oa _,rfl,rfl,bD⟩
 case round=>
  obtain⟨k,n,rfl,I,J⟩:=hrel;have HOK:=cB I;have G:=cB J;have n:=cB (B.o.z J);clear I J B;by_cases B:k<yA v
  .obtain ⟨b,o,a1,q1,a2,q2,rfl,hbl,m,p,q,r,p1,p2⟩:=(O.o.z n.o.B).at B;obtain⟨S,n2,n3,I,I⟩:=Y.o k B;have F:bB (dN c.w t v k=cA->kC c t v=cA):=λh=>by rw[HSB2.o];exact mP h B
   have I:bB (dN c.w t v k=(yN v k&&fO c.w t v[k])):=fT B;have J:bB (0<k->∃u:nB,yN v k=uJ u v[k].N/\tC wr b (o+(k-1)*4) (oA u)):=λz=>by
    refine⟨_,nV z B,?_⟩;obtain⟨b',o',_,_,_,_,e,_,u0,_⟩:=(O.o.z n.o.B).at (i:=k-1) (by omega)
    simp only[Qa,Addr.mk.injEq,Cc]at e;rw[e.1,e.2];exact u0
   have N:bB (k=0->yN v k=dA):=λz=>by subst z;rfl
   generalize v[k]=T at *;have Z:=cB (λW=>iG T.N W S);have X:=cB (λW=>CF T a1 a2 q1 q2 W);have O:bB (fO c.w t T=(oC T.N&&zB T.L (-1) 1000000&&tL T.M&&bL c.w t T.Z&&!yE T)):=rfl;have B:(oC T.N=cA\/oC T.N=dA/\(zB T.L (-1) 1000000=cA\/zB T.L (-1) 1000000=dA/\yE T=dA))/\fO c.w t T=cA\/oC T.N=dA/\zB T.L (-1) 1000000=dA/\yE T=cA/\fO c.w t T=(tL T.M&&bL c.w t T.Z):=by
    rw[O.o];cases oC T.N<;>cases zB T.L (-1) 1000000<;>cases yE T<;>simp
   clear O;obtain⟨B|⟨B,S|⟨S,Y⟩⟩,E⟩|⟨B,S,Y,E⟩:=B
   rotate_left 3;rotate_left 1;iterate 3
    .have E:=cB E
     rw[B]at Z
     try rw[Y]at X
     go_wp2_with(first
      |(go_at_call 52;apply cO (Z.o _))
      |(go_at_call 90;refine cO (xD (by assumption) _) ?_)
      |(go_at_call 111;apply hC (X.o _);intro w3 U))
     go_ret
     exact⟨oB (F.o (by rw[I.o,E.o];simp)).symm,by first|exact vB n.o.B (vB yB U)|exact vB n.o.B yB⟩
   have O:=cB E;rw[B]at Z;rw[Y]at X;clear E;go_upto_region 8 with(first
    |(go_at_call 52;apply cO (Z.o _))
    |(go_at_call 90;apply cO (xD S _))
    |(go_at_call 111;apply hC (X.o _);intro w3 U))
   have T3:=cB ((gB.new wr #[oA T.N,zA T.L,pA a1 (yA T.M) q1,pA a2 (yA T.Z) q2] 54).z U);have R:=vB yB U;have P3:=cB (n.o.z R);have B3:=cB (vB G.o R);have Q3:=cB (Vc (p1.z R) (p2.z R));have Y:bB (0<k->∃u:nB,yN v k=uJ u T.N/\tC w3 b (o+(k-1)*4) (oA u)):=λz=>by
    obtain⟨u,B,S⟩:=J.o z;exact⟨u,B,(R.cell hbl).trans S⟩
   clear U R J p1 p2 m p q r n G X Z;generalize wr.1.size=G at *;clear wr;go_cut [61] (λs wx=>s=qA (!(yN v k))/\tB w3 wx)
   case first=>
    obtain⟨-,x0⟩:=P3.o.S.c2;obtain⟨x1,-⟩:=T3.o.c4;have hv:(∃u,((0:Int)<k/\0<k)/\tC w3 b (o+(k-1)*4) (oA u)/\yN v k=uJ u T.N)\/decide ((0:Int)<k)=cA/\decide (0<k)=cA/\yN v k=dA:=by
     by_cases z:0<k
     .obtain ⟨u,hp,U⟩:=Y.o z;exact Ca ⟨u,⟨by omega,z⟩,U,hp⟩
     exact La ⟨by simp;omega,by simp;omega,N.o (by omega)⟩
    obtain⟨u,⟨z,h0'⟩,U,C⟩|⟨hd,hd',C⟩:=hv
    all_goals
     have C:=cB C;go_quiet (fail)
     go_wp2_with fail;go_meet;exact⟨by rw[C.o];rfl,below_drewN bD _⟩
   obtain⟨rfl,Q⟩:=hcut;rename eA=>w4;have T4:=cB (T3.o.z Q);have n:=cB (P3.o.z Q);have B4:=cB (vB B3.o Q);have C:=cB (Q3.o.1.z Q);have P24:=cB (Q3.o.2.z Q);clear Q T3 P3 B3 Q3 Y N;cases e4:yN v k
   .rw[e4]at I;go_wp2;go_ret;exact⟨oB (F.o (by rw[I.o];simp)).symm,n.o.B⟩
   rw[e4]at I;obtain⟨-,-,G,-⟩:=T4.o.c4;go_wp2;clear G;go_loopw [7,8,65] (λ_ _ j wr=>∃i:Nat,i<=yA T.M/\j=zA i/\dI (sL T.M) i=dA/\tB w4 wr) (λ_ _ j _=>yA T.M-(intOf j).toNat)
   case atStart=>exact⟨0,Oa _,rfl,rfl,bD⟩
   case round=>
    obtain⟨i,hi,rfl,l0,e0⟩:=hrel;have M:=cB l0;have y:=cB e0;clear l0 e0;by_cases A:i<yA T.M
    .obtain ⟨pb,po,rfl,m0,c0,c1⟩:=(C.o.z y.o).at A;have Y:bB _:=λh=>F.o (by rw[I.o,O.o];have:tL T.M=cA:=mP h A;rw[this];simp);have Z:bB _:=xY A;have hsz:=n2 i A;have G:bB (0<i->∃u:nB,wL T.M i=uJ u T.M[i].s/\tC wr pb (po+(i-1)*2) (oA u)):=λz=>by
      refine⟨_,xS z A,?_⟩;obtain⟨b',o',e,_,u0,_⟩:=(C.o.z y.o).at (i:=i-1) (by omega)
      simp only[Qa,Addr.mk.injEq,Cc]at e;rw[e.1,e.2];exact u0
     have N:bB (i=0->wL T.M i=dA):=λz=>by subst z;rfl
     generalize T.M[i]=P at *;have K:=cB (λW=>eM P.s W hsz);have H:=cB (pF wr (vA #[oA P.s,zA P.n] 203));have MB:=cB (gB.new wr #[oA P.s,zA P.n] 203);go_upto_region 13 with fail;generalize wr.alloc (vA #[oA P.s,zA P.n] 203)=W at *;have D:=cB (vB y.o H.o);have TB:=cB (T4.o.z D.o);have PB:=cB (n.o.z D.o);replace G:bB (0<i->∃u:nB,wL T.M i=uJ u P.s/\tC W pb (po+(i-1)*2) (oA u)):=λz=>by
      obtain⟨u,B,S⟩:=G.o z;exact⟨u,B,(H.o.cell m0).trans S⟩
     generalize wr.1.size=mb at *;clear c0 c1 m0 y H wr;go_cut [95] (λs wx=>s=qA (!(sL T.M i))/\tB W wx)
     case first=>
      have d:=λx:iC W=>(⟨(MB.o.z x.h).c2,(TB.o.z x.h).c4,(PB.o.z x.h).S.c2,(PB.o.z x.h).C.c6⟩:_/\_/\_/\_)
      simp only[forall_and]at d;obtain⟨⟨d0,d1⟩,⟨-,-,d2,d3⟩,⟨d4,-⟩,⟨d5,-⟩⟩:=d;have hnel:=iC.there W;have hv:xE P.s=cA/\sL T.M i=cA\/xE P.s=dA/\(zB P.n 0 1000000=cA/\sL T.M i=cA\/zB P.n 0 1000000=dA/\((∃u,((0:Int)<i/\0<i)/\tC W pb (po+(i-1)*2) (oA u)/\sL T.M i=uJ u P.s)\/decide ((0:Int)<i)=cA/\decide (0<i)=cA/\sL T.M i=dA)):=by
       rw[Z.o];cases xE P.s
       .exact Ca ⟨rfl,by simp⟩
       refine La ⟨rfl,?_⟩;cases zB P.n 0 1000000
       .exact Ca ⟨rfl,by simp⟩
       refine La ⟨rfl,?_⟩;by_cases z:0<i
       .obtain ⟨u,hp,U⟩:=G.o z;exact Ca ⟨u,⟨by omega,z⟩,U,by rw[hp];simp⟩
       exact La ⟨by simp;omega,by simp;omega,by rw[N.o (by omega)];rfl⟩
      obtain⟨f,L⟩|⟨f,⟨l,L⟩|⟨l,⟨u,⟨z,h0'⟩,U,L⟩|⟨hd,hd',L⟩⟩⟩:=hv
      all_goals
       have L:=cB L;rw[f]at K;try have d6:=iC.cells U
       try clear U
       refine wB (by kernel_rfl) (by kernel_rfl) ?_;repeat (go_big_quiet_step (first|(go_at_call 112;exact mC (K.o _))|(go_at_call 90;exact wC (xD (by assumption) _))))
       refine wpQuiet_nil ?_;rintro _ ⟨x,rfl⟩;go_wp2_with fail;go_meet;exact⟨by rw[L.o];rfl,x.h⟩
     obtain⟨rfl,i0⟩:=hcut;rename eA=>w7;have V:=cB (vB D.o i0);clear i0 D MB TB PB G K;cases f4:sL T.M i
     .have J:=cB f4;go_wp2;go_ret;exact⟨oB (Y.o J.o).symm,vB n.o.B V.o⟩
     have J:bB (dI (sL T.M) (i+1)=dA):=by show _=_;rw[gL,M.o,f4];rfl
     go_wp2;exact⟨⟨i+1,by omega,by go_num,J.o,V.o⟩,by simp[intOf];omega⟩
    .have ei:i=yA T.M:=by omega
     have HMB:bB (tL T.M=dA):=by have:=M.o;rw[ei]at this;exact this
     clear ei;replace T4:=cB (T4.o.z y.o);replace n:=cB (n.o.z y.o);replace B4:=cB (vB B4.o y.o);have P25:=cB (P24.o.z y.o);obtain⟨-,-,-,y3⟩:=T4.o.c4;clear C P24 y M;go_wp2;clear y3;generalize C:wr=wo at *;clear C;go_loopw [9,10,100] (λ_ _ j wr=>∃i:Nat,i<=yA T.Z/\j=zA i/\dI (yI c.w t T.Z) i=dA/\tB wo wr) (λ_ _ j _=>yA T.Z-(intOf j).toNat)
     case atStart=>exact⟨0,Oa _,rfl,rfl,bD⟩
     case round=>
      obtain⟨i,hi,rfl,l0,e0⟩:=hrel;have M:=cB l0;have y:=cB e0;clear l0 e0;by_cases A:i<yA T.Z
      .obtain ⟨pb,po,rfl,m0,c0,c1⟩:=(P25.o.z y.o).at A;have Y:bB _:=λh=>F.o (by rw[I.o,O.o];have:bL c.w t T.Z=cA:=mP h A;rw[this];simp);have Z:bB (yI c.w t T.Z i=(wL T.Z i&&kK T.Z[i].s&&zB T.Z[i].n 0 t&&decide (t-T.Z[i].n<c.w))):=pV A;have hsz:=n3 i A;have G:bB (0<i->∃u:nB,wL T.Z i=uJ u T.Z[i].s/\tC wr pb (po+(i-1)*2) (oA u)):=λz=>by
        refine⟨_,xS z A,?_⟩;obtain⟨b',o',e,_,u0,_⟩:=(P25.o.z y.o).at (i:=i-1) (by omega)
        simp only[Qa,Addr.mk.injEq,Cc]at e;rw[e.1,e.2];exact u0
       have N:bB (i=0->wL T.Z i=dA):=λz=>by subst z;rfl
       generalize T.Z[i]=P at *;have K:=cB (λW=>IF P.s W hsz);have H:=cB (pF wr (vA #[oA P.s,zA P.n] 58));have MB:=cB (gB.new wr #[oA P.s,zA P.n] 58);go_upto_region 19 with fail;generalize wr.alloc (vA #[oA P.s,zA P.n] 58)=W at *;have D:=cB (vB y.o H.o);have TB:=cB (T4.o.z D.o);have PB:=cB (n.o.z D.o);replace G:bB (0<i->∃u:nB,wL T.Z i=uJ u P.s/\tC W pb (po+(i-1)*2) (oA u)):=λz=>by
        obtain⟨u,B,S⟩:=G.o z;exact⟨u,B,(H.o.cell m0).trans S⟩
       generalize wr.1.size=mb at *;clear c0 c1 m0 y H wr;go_cut [142] (λs wx=>s=qA (!(yI c.w t T.Z i))/\tB W wx)
       case first=>
        have d:=λx:iC W=>(⟨(MB.o.z x.h).c2,(TB.o.z x.h).c4,(PB.o.z x.h).S.c2,(PB.o.z x.h).C.c6⟩:_/\_/\_/\_)
        simp only[forall_and]at d;obtain⟨⟨d0,d1⟩,⟨-,-,d2,d3⟩,⟨d4,-⟩,⟨d5,-⟩⟩:=d;have hnel:=iC.there W;have hv:kK P.s=cA/\yI c.w t T.Z i=cA\/kK P.s=dA/\(zB P.n 0 t=cA/\yI c.w t T.Z i=cA\/zB P.n 0 t=dA/\(0<=P.n/\P.n<=t)/\(c.w<=t-P.n/\yI c.w t T.Z i=cA\/decide (c.w<=t-P.n)=cA/\((∃u,((0:Int)<i/\0<i)/\tC W pb (po+(i-1)*2) (oA u)/\yI c.w t T.Z i=uJ u P.s)\/decide ((0:Int)<i)=cA/\decide (0<i)=cA/\yI c.w t T.Z i=dA))):=by
         rw[Z.o];cases kK P.s
         .exact Ca ⟨rfl,by simp⟩
         refine La ⟨rfl,?_⟩;cases hb:zB P.n 0 t
         .exact Ca ⟨rfl,by simp⟩
         refine La ⟨rfl,zJ hb,?_⟩;by_cases g:c.w<=t-P.n
         .exact Ca ⟨g,by rw[Ub (show ¬t-P.n<c.w by omega)];simp⟩
         refine La ⟨by simpa using g,?_⟩;rw[Ac (show t-P.n<c.w by omega)];by_cases z:0<i
         .obtain ⟨u,hp,U⟩:=G.o z;exact Ca ⟨u,⟨by omega,z⟩,U,by rw[hp];simp⟩
         exact La ⟨by simp;omega,by simp;omega,by rw[N.o (by omega)];rfl⟩
        obtain⟨f,L⟩|⟨f,⟨l,L⟩|⟨l,⟨h,h⟩,⟨g,L⟩|⟨g,⟨u,⟨z,h0'⟩,U,L⟩|⟨hd,hd',L⟩⟩⟩⟩:=hv
        all_goals
         have L:=cB L;rw[f]at K;try have d6:=iC.cells U
         try clear U
         refine wB (by kernel_rfl) (by kernel_rfl) ?_;repeat (go_big_quiet_step (first|(go_at_call 113;exact mC (K.o _))|(go_at_call 90;exact wC (xD (by assumption) _))))
         refine wpQuiet_nil ?_;rintro _ ⟨x,rfl⟩;go_wp2_with fail;go_meet;exact⟨by rw[L.o];rfl,x.h⟩
       obtain⟨rfl,i0⟩:=hcut;rename eA=>w7;have V:=cB (vB D.o i0);clear i0 D MB TB PB G K;cases f4:yI c.w t T.Z i
       .have J:=cB f4;go_wp2;go_ret;exact⟨oB (Y.o J.o).symm,vB n.o.B V.o⟩
       have J:bB (dI (yI c.w t T.Z) (i+1)=dA):=by show _=_;rw[gL,M.o,f4];rfl
       go_wp2;exact⟨⟨i+1,by omega,by go_num,J.o,V.o⟩,by simp[intOf];omega⟩
      .have ei:i=yA T.Z:=by omega
       have h:bB (bL c.w t T.Z=dA):=by have:=M.o;rw[ei]at this;exact this
       have B:bB (dI (dN c.w t v) (k+1)=dA):=by
        show _=_;rw[gL,HOK.o,I.o,O.o,HMB.o,h.o];rfl
       clear ei;go_wp2;exact⟨⟨k+1,by omega,by go_num,B.o,vB B4.o y.o⟩,by simp[intOf];omega⟩
  have B:k=yA v:=by omega
  have h:bB (kC c t v=dA):=by show _=_;rw[HSB2.o];have:=HOK.o;rw[B]at this;exact this
  go_wp2;go_ret;exact⟨oB h.o.symm,n.o.B⟩
def aGb(w:eA)(e:Ending)(t:fB):Prop:=∃a c b d,e=uA (tA #[oA t.N,zA t.L,pA a (yA t.M) c,pA b (yA t.Z) d])/\lC w a t.M/\lC w b t.Z
theorem tW(q:Int)(a:jC)(p:Nat)(l:List fB)(name:nB)(w:eA)(N:uC w a l)(O:yA l<=1000000000):
 Calls prog 61 #[tA #[zA q,pA a (yA l) p],oA name] w λe X=>aGb X e (xB l name)/\tB w X:=by
 have I:bB (uC w a l):=N;have x:bB (xB l name=(xC (·.N) name l).getD ⟨name,-1,[],[]⟩):=rfl;clear N;go_enter func61,ntmps61;go_wp2;have M:bB _:=cB (by have:=gB.new (w.alloc (vA #[zA q,pA a (yA l) p] 40)) #[oA ⟨#[]⟩,zA 0,pA aA 0 0,pA aA 0 0] 54;simpa using this);have L:bB (tB w ((w.alloc (vA #[zA q,pA a (yA l) p] 40)).alloc (vA #[oA ⟨#[]⟩,zA 0,pA aA 0 0,pA aA 0 0] 54))):=vB yB yB;generalize h:(w.alloc (vA #[zA q,pA a (yA l) p] 40)).alloc (vA #[oA ⟨#[]⟩,zA 0,pA aA 0 0,pA aA 0 0] 54)=W at *;clear h;go_loopw [6,10] (λ_ i wr=>∃k:Nat,k<=yA l/\i=zA k/\bB (∀j(h:j<k)(h':j<yA l),l[j].N≠name)/\tB W wr) (λ_ i _=>yA l-(intOf i).toNat)
 case atStart=>exact⟨0,Oa _,rfl,(λj h=>absurd h (by omega)),bD⟩
 case round=>
  obtain⟨k,m,rfl,F,m⟩:=hrel;have E:bB _:=m;have n:bB (gB wr (w.1.size+1) #[oA ⟨#[]⟩,zA 0,pA aA 0 0,pA aA 0 0] 54):=M.o.z m;have G:=aB n.o;have R:tC wr (w.1.size+1) 0 (oA ⟨#[]⟩):=n.o.cell 0;have S:tC wr (w.1.size+1) 1 (zA 0):=n.o.cell 1;have U:tC wr (w.1.size+1) 2 (pA aA 0 0):=n.o.cell 2;have V:tC wr (w.1.size+1) 3 (pA aA 0 0):=n.o.cell 3;have J:=n.o.free 0;have J:=n.o.free 1;have J:=n.o.free 2;have J:=n.o.free 3;clear m M;by_cases A:k<yA l
  .obtain ⟨b,o,y,C,z,D,rfl,B,Y,Z,z2,z3,P,Q⟩:=I.o.at A;have r:bB _:=vB L.o E.o;have c:=(r.o.cell B).trans Y;have d:=(r.o.cell B).trans Z;have f:=(r.o.cell B).trans z2;have g:=(r.o.cell B).trans z3;clear Y Z z2 z3;have m:bB (xC (·.N) name l=if l[k].N=name then some l[k] else xC (·.N) name (l.drop (k+1))):=by
    show _=_;rw[BV k F.o,Cb A,lS]
   have u:bB (l[k].N≠name->∀j(h:j<k+1)(h':j<yA l),l[j].N≠name):=λK j h J=>by
    by_cases e:j=k
    .subst e;exact K
    exact F.o j (by omega) J
   have h:bB (lC w y l[k].M):=P;have J:bB (lC w z l[k].Z):=Q;clear P Q;generalize l[k]=T at *;by_cases t:T.N=name
   .have I:=(dE _ _).2 t;have H:bB (xB l name=T):=by show _=_;rw[x.o,m.o,Ma t];rfl
    clear t;go_wp2;have s:tB w (((((wr.setCell (dB (w.1.size+1) 0) (oA T.N)).setCell (dB (w.1.size+1) 1) (zA T.L)).setCell (dB (w.1.size+1) 2) (pA y (yA T.M) C)).setCell (dB (w.1.size+1) 3) (pA z (yA T.Z) D)).alloc (vA #[oA T.N,zA T.L,pA y (yA T.M) C,pA z (yA T.Z) D] 54)):=vB (((((r.o.setCell (by simp) _).setCell (by simp) _).setCell (by simp) _).setCell (by simp) _)) yB;refine bodyPost_ret (v:=tA #[oA T.N,zA T.L,pA y (yA T.M) C,pA z (yA T.Z) D]) (by simp[results,results61,go_sem,R,S,U,V,G]) rfl ⟨?_,s⟩;rw[H.o];exact⟨y,C,z,D,rfl,h.o.z s,J.o.z s⟩
   have I:=zD t;have G:bB _:=u.o t;clear t;go_wp2;exact⟨⟨k+1,by omega,by go_num,G,vB E.o yB⟩,by simp[intOf];omega⟩
  .have H:bB (xB l name=⟨name,-1,[],[]⟩):=by
    show _=_;rw[x.o,BV k F.o,Yb (by omega)];rfl
   have r:bB _:=vB L.o E.o;go_wp2;refine bodyPost_ret (v:=tA #[oA name,zA (-1),pA aA 0 0,pA aA 0 0]) (by simp[results,results61,go_sem,R,S,U,V]) rfl ⟨?_,(((((r.o.setCell (by simp) _).setCell (by simp) _).setCell (by simp) _).setCell (by simp) _))⟩;rw[H.o];exact⟨aA,0,aA,0,rfl,Ca rfl,Ca rfl⟩
theorem KD(c:gC)(t:fB)(q o:jC)(v r:Nat)(m:nB)(w:eA)(G:lC w q t.M)(H:lC w o t.Z)(C:aAr t.Z)(e:yA t.M<=1000000000)(e:yA t.Z<=1000000000):
 vE 122 #[jE c,tA #[oA t.N,zA t.L,pA q (yA t.M) v,pA o (yA t.Z) r],oA m] w (.tuple #[zA (kE c t m).1,zA (kE c t m).2]):=by
 unfold jE;by_cases z:m.toList.isEmpty=dA
 .have p:bB (kE c t m=(((yA t.Z:Nat):Int),if t.L<0 then c.tl else t.L)):=by show _=_;unfold kE;rw[Ma z]
  clear G H C;by_cases R:t.L<0
  .go_enter func122,ntmps122;go_wp2;go_ret2;exact⟨aL (by rw[p.o]) (by rw[p.o];exact(Ma R).symm),vB yB yB⟩
  have f:bB (¬t.L<0):=R;go_enter func122,ntmps122;go_wp2;go_ret2;exact⟨aL (by rw[p.o]) (by rw[p.o];have e:=f.o;exact(Ja (by omega)).symm),vB yB yB⟩
 have Y:m.toList.isEmpty=cA:=by simpa using z
 have p:bB (kE c t m=(((oI wD t.Z m:Nat):Int),tG t.M m c.ml)):=by show _=_;unfold kE;rw[Ja z]
 have U:bB (lC w q t.M):=G;have V:bB (lC w o t.Z):=H;have B:bB (aAr t.Z):=C;clear G H C z;go_enter func122,ntmps122;go_wp2;have M:bB _:=cB (by have:=gB.new (w.alloc (vA #[zA c.w,zA c.tl,zA c.ml,zA c.sh,zA c.ha,zA c.sg] 24)) #[oA t.N,zA t.L,pA q (yA t.M) v,pA o (yA t.Z) r] 54;simpa using this);have A:bB (tB w ((w.alloc (vA #[zA c.w,zA c.tl,zA c.ml,zA c.sh,zA c.ha,zA c.sg] 24)).alloc (vA #[oA t.N,zA t.L,pA q (yA t.M) v,pA o (yA t.Z) r] 54))):=vB yB yB;generalize (w.alloc (vA #[zA c.w,zA c.tl,zA c.ml,zA c.sh,zA c.ha,zA c.sg] 24)).alloc (vA #[oA t.N,zA t.L,pA q (yA t.M) v,pA o (yA t.Z) r] 54)=W at *;go_loopw [9,11,32] (λl _ i wr=>∃k:Nat,k<=yA t.M/\i=zA k/\l=zA (tG (t.M.take k) m c.ml)/\tB W wr) (λ_ _ i _=>yA t.M-(intOf i).toNat)
 case atStart=>exact⟨0,Oa _,rfl,rfl,bD⟩
 case round=>
  obtain⟨k,e,rfl,rfl,a⟩:=hrel;have d:bB _:=a;clear a;by_cases y:k<yA t.M
  .obtain ⟨Z,po,rfl,E,z0,z1⟩:=(U.o.z (vB A.o d.o)).at y;have g:bB (tG (t.M.take (k+1)) m c.ml=if t.M[k].s.toList==m.toList then t.M[k].n else tG (t.M.take k) m c.ml):=gi _ _ _ _ y;generalize t.M[k]=P at *;generalize tG (t.M.take k) m c.ml=T at *;by_cases h:(P.s.toList==m.toList)=dA
   .have f:bB (tG (t.M.take (k+1)) m c.ml=P.n):=by show _=_;rw[g.o,Ma h]
    clear g;go_wp2;exact⟨⟨k+1,by omega,by go_num,by rw[f.o],vB d.o yB⟩,by simp[intOf];omega⟩
   have D:(P.s.toList==m.toList)=cA:=by simpa using h
   have f:bB (tG (t.M.take (k+1)) m c.ml=T):=by show _=_;rw[g.o,Ja h]
   clear g h;go_wp2;exact⟨⟨k+1,by omega,by go_num,by rw[f.o],vB d.o yB⟩,by simp[intOf];omega⟩
  have Q:t.M.take k=t.M:=Ra (by omega);rw[Q];clear Q;generalize tG t.M m c.ml=e at *;have N:bB (gB wr (w.1.size+1) #[oA t.N,zA t.L,pA q (yA t.M) v,pA o (yA t.Z) r] 54):=M.o.z d.o;have J:bB _:=vB A.o d.o;have e:tC wr (w.1.size+1) 3 (pA o (yA t.Z) r):=N.o.cell 3;clear M A d;generalize F:wr=S at *;clear F;go_wp2;clear e N;go_loopw [12,14,46] (λn _ i wr=>∃k:Nat,k<=yA t.Z/\i=zA k/\n=zA (oI wD (t.Z.take k) m:Nat)/\tB S wr) (λ_ _ i _=>yA t.Z-(intOf i).toNat)
  case atStart=>exact⟨0,Oa _,rfl,rfl,bD⟩
  case round=>
   obtain⟨j,e,rfl,rfl,a⟩:=hrel;have d:bB _:=a;clear a;by_cases b:j<yA t.Z
   .obtain ⟨Z,po,rfl,E,z0,z1⟩:=(V.o.z (vB J.o d.o)).at b;have g:bB (oI wD (t.Z.take (j+1)) m=oI wD (t.Z.take j) m+if (wD t.Z[j].s).toList==m.toList then 1 else 0):=vg _ _ _ b;have K:bB (∀W,vE 175 #[oA t.Z[j].s] W (oA (wD t.Z[j].s))):=λW=>jZ t.Z[j].s W (B.o j b);have X:oI wD (t.Z.take j) m<=1000000000:=by have:=XK wD (t.Z.take j) m;rw[Hb]at this;omega
    generalize t.Z[j]=P at *;generalize wD P.s=mk at *;generalize oI wD (t.Z.take j) m=L at *;go_wp2_with fail;apply hC (K.o _);intro e x;have u:bB _:=vB d.o (vB yB x);clear x K;by_cases h:(mk.toList==m.toList)=dA
    .have f:bB (oI wD (t.Z.take (j+1)) m=L+1):=by show _=_;rw[g.o,Ma h]
     clear g;go_wp2;exact⟨⟨j+1,by omega,by go_num,by rw[f.o];go_num,u.o⟩,by simp[intOf];omega⟩
    have D:(mk.toList==m.toList)=cA:=by simpa using h
    have f:bB (oI wD (t.Z.take (j+1)) m=L):=by show _=_;rw[g.o,Ja h];rfl
    clear g h;go_wp2;exact⟨⟨j+1,by omega,by go_num,by rw[f.o],u.o⟩,by simp[intOf];omega⟩
   have O:t.Z.take j=t.Z:=Ra (by omega);rw[O];clear O;go_wp2;go_ret2;exact⟨aL (by rw[p.o]) (by rw[p.o]),vB J.o d.o⟩
theorem AK{w e:eA}{x y:Array Value}{b d:TypeId}(f:Below ((w.alloc (vA x b)).alloc (vA y d)).1.size ((w.alloc (vA x b)).alloc (vA y d)) e):
 gB e w.1.size x b/\gB e (w.1.size+1) y d/\tB w e:=by
 refine⟨?_,?_,vB (vB yB yB) f⟩;exact (gB.z (gB.z (g:=w.1.size) (heap_alloc_new w (vA x b)) bD) yB).z f;have h:=gB.z (g:=(w.alloc (vA x b)).1.size) (heap_alloc_new (w.alloc (vA x b)) (vA y d)) f;simpa using h
def aAt(w:eA)(b:Nat)(a:jC)(n cap:Nat)(c k cr fl:Int)(dn:Bool):Prop:=gB w b #[pA a n cap,zA c,zA k,zA cr,zA fl,qA dn] 35
structure SW(w:World)(a:jC)(fs:List jB)(c:Int)(op:pK):Prop where
 files:rB w a fs
 asc:xU fs
 len:yA fs≤1000
 sum:(qC fs:Int)≤c
 cap:c≤1000000000
 data:op.data.size≤200000000
def RO(w:eA)(a:jC)(cap:Nat)(fs:List jB)(c k cr fl:Int)(dn:Bool)(op:pK):Prop:=
 Calls prog 101 #[tA #[pA a (yA fs) cap,zA c,zA k,zA cr,zA fl,qA dn],tA #[zA op.K,oA op.N,oA op.tq,oA op.data,zA op.size]] w λe f=>
  ∃d b,e=uA (.tuple #[.slice d (yA (zO fs c op).2) b,zA (zO fs c op).1])/\rB f d (zO fs c op).2/\tB w f
section
variable {w:eA} {a:jC} {cap:Nat} {fs:List jB} {c k cr fl:Int} {dn:Bool} {op:pK}
theorem AA{d:Int}{t:nB}{x:Int}(h:iE t fs 0=x)(w:eA)(f:rB w a fs)(b:yA fs<=maxLen):
 vE 41 #[tA #[pA a (yA fs) cap,zA c,zA d,zA cr,zA fl,qA dn],oA t] w (zA x):=h ▸ sW a cap fs c d cr fl dn t w f b
theorem ay(f:jB)(j:rB w a fs)(l:yA fs<=1048576):Calls prog 169 #[pA a (yA fs) cap,tA #[oA f.N,oA f.data,zA f.Y]] w λe g=>∃d b,e=uA (.slice d (yA (vH fs f)) b)/\rB g d (vH fs f)/\tB w g:=
 (od a cap fs f w j l).mono λe g ⟨v,i,n,h⟩=>by obtain⟨d,b,rfl,m⟩:=gH n;exact⟨d,b,i,m.files,h⟩
theorem aJf{x:Nat×List jB}{f:jB}(_:x=(0,vH fs f))(h:rB w a fs)(i:yA fs<=1048576):Calls prog 169 #[pA a (yA fs) cap,tA #[oA f.N,oA f.data,zA f.Y]] w λe g=>∃d b,e=uA (.slice d (yA (vH fs f)) b)/\rB g d (vH fs f)/\tB w g:=ay f h i
theorem WM(t:nB)(i:rB w a fs)(j:yA fs<=1048576):Calls prog 170 #[pA a (yA fs) cap,oA t] w λe f=>∃d b,e=uA (.slice d (yA (kD fs t)) b)/\rB f d (kD fs t)/\tB w f:=
 (AZ a cap fs t w i j).mono λe f ⟨v,h,m,g⟩=>by obtain⟨d,b,rfl,l⟩:=gH m;exact⟨d,b,h,l.files,g⟩
theorem XU(d:xU fs)(f:op.K≠1)(g:fI fs op.N (fC op.N fs)=dA):∃(e:fC op.N fs<yA fs)(b:jB),fs[fC op.N fs]=b/\iE op.N fs 0=(fC op.N fs:Int)/\
 zO fs c op=if op.K=2 then(if c<qC fs+op.data.size then(3,fs) else(0,vH fs ⟨b.N,b.data++op.data,b.Y⟩)) else if op.K=3 then(0,vH fs ⟨b.N,b.data,b.data.size⟩)
  else if op.K=4 then(if zB op.size 0 b.data.size=dA then(0,vH fs ⟨b.N,b.data.extract 0 op.size.toNat,op.size⟩) else(6,fs)) else if op.K=5 then(0,vH (kD fs op.N) ⟨op.tq,b.data,b.Y⟩) else(0,kD fs op.N):=by grind [xU,fI,fC,iE,zO,qC,vH,zB,kD,LX,RH,OH,lK,UG,vU]
end
theorem aNd(w:eA)(a:jC)(cap:Nat)(fs:List jB)(c k cr fl:Int)(dn:Bool)(op:pK)(h:SW w a fs c op)(B:op.K=1\/op.K≠1/\fI fs op.N (fC op.N fs)=cA):RO w a cap fs c k cr fl dn op:=by
 unfold RO;have d:∃x,iE op.N fs 0=x/\(op.K=1/\(x=(fC op.N fs:Int)/\zO fs c op=(5,fs)\/x = -1/\((yA fs:Int)=1000/\zO fs c op=(3,fs)\/¬(yA fs:Int)=1000/\zO fs c op=(0,vH fs ⟨op.N,kA,0⟩)))\/(op.K==1)=cA/\x = -1/\zO fs c op=(4,fs)):=by
  refine⟨_,OH h.asc (lK op.N h.asc),?_⟩;obtain g|⟨g,i⟩:=B
  .cases i:fI fs op.N (fC op.N fs)
   .refine Ca ⟨g,La ⟨by simp,?_⟩⟩;have:=h.len;by_cases v:yA fs=1000
    .exact Ca ⟨by omega,by simp[zO,g,i,v]⟩
    refine La ⟨by omega,?_⟩;rw[RG (f:=⟨op.N,kA,0⟩) h.asc i];simp only[zO,Ma g,i,Bd,Cf];rw[Ja (by omega)]
   exact Ca ⟨g,Ca ⟨by simp,by simp[zO,g,i]⟩⟩
  exact La ⟨by simpa using g,by simp[i],JO g i⟩
 obtain⟨x,r,d⟩:=d;have A:=cB h.files;have m:=cB r;have D:=h.len;have y:yA fs<=maxLen:=by simp[maxLen];omega
 obtain⟨I,G,M,F,L⟩:=op;clear h B r;dsimp only at d m |-
 obtain⟨rfl,⟨rfl,j⟩|⟨rfl,⟨v,j⟩|⟨v,j⟩⟩⟩|⟨g,rfl,j⟩:=d
 all_goals
  have j:=cB j;go_enter func101,ntmps101;go_wp2_with fail;apply hC (AA m.o _ ((A.o.z yB).z yB) y);intro N o;obtain⟨q,s,b⟩:=AK o;have z:=cB b;have l:=cB (A.o.z b);obtain⟨J,K,-⟩:=s.c5;obtain⟨H,-⟩:=q.c6;clear o q s b;go_wp2_with(go_at_call 169;refine(ay ⟨G,kA,0⟩ l.o (by omega)).mono ?_;rintro e O ⟨E,n,rfl,C,p⟩;have u:=cB C;have t:=cB (vB z.o p);clear C p);go_ret2;rw[j.o];first
   |exact⟨a,cap,rfl,l.o,z.o⟩
   |exact⟨E,n,rfl,u.o,t.o⟩
theorem aCj(w:eA)(a:jC)(cap:Nat)(fs:List jB)(c k cr fl:Int)(dn:Bool)(op:pK)(h:SW w a fs c op)(f:op.K=3\/op.K=4\/op.K=6)(N:fI fs op.N (fC op.N fs)=dA):RO w a cap fs c k cr fl dn op:=by
 unfold RO;obtain⟨L,d,A,z,p⟩:=XU (c:=c) h.asc (by omega) N;have x:op.K=3/\zO fs c op=(0,vH fs ⟨d.N,d.data,d.data.size⟩)\/op.K=4/\(zB op.size 0 d.data.size=cA/\zO fs c op=(6,fs)\/zB op.size 0 d.data.size=dA/\(0<=op.size/\op.size<=d.data.size)/\zO fs c op=(0,vH fs ⟨d.N,d.data.extract 0 op.size.toNat,op.size⟩))\/op.K=6/\zO fs c op=(0,kD fs op.N):=by
  obtain f|f|f:=f;exact Ca ⟨f,by rw[p];simp[f]⟩
  .refine La (Ca ⟨f,?_⟩);cases B:zB op.size 0 d.data.size
   .exact Ca ⟨rfl,by rw[p];simp[f,B]⟩
   exact La ⟨rfl,by simpa[zB]using B,by rw[p];simp[f,B]⟩
  exact La (La ⟨f,by rw[p];simp[f]⟩)
 have I:=cB h.files;have s:=cB z;have M:=h.len;have H:yA fs<=maxLen:=by simp[maxLen];omega
 have t:=cB A;obtain⟨m,V,m,R,m⟩:=op;clear h f z N p A;dsimp only at x s t L |-
 obtain⟨rfl,m⟩|⟨rfl,⟨B,m⟩|⟨B,⟨T,U⟩,m⟩⟩|⟨rfl,m⟩:=x
 all_goals
  have m:=cB m;go_enter func101,ntmps101;go_wp2_with fail;apply hC (AA s.o _ ((I.o.z yB).z yB) H);intro C v;obtain⟨y,n,i⟩:=AK v;have D:=cB i;have j:=cB (I.o.z i);obtain⟨h,h,h,h,h⟩:=n.c5;obtain⟨Y,-⟩:=y.c6;obtain⟨b,o,rfl,Z,O,P,Q⟩:=j.o.at L;rw[t.o]at O P Q;have S:=aB n;have K:w.1.size<C.1.size:=by omega
  try have F:=cB (λW(G:tB C W)=>aJf (cap:=cap) m.o (j.o.z G) (by omega))
  have E:=cB (λW(G:tB C W)=>WM (cap:=cap) V (j.o.z G) (by omega));clear v y n i;go_wp2_with(first
   |(go_at_call 90;refine hC (xD (by assumption) _) ?_;rintro h rfl)
   |(go_at_call 169;refine(F.o _ yB).mono ?_;rintro e X ⟨J,l,rfl,u,g⟩;have r:=cB u;have q:=cB (vB D.o (vB yB g));clear u g)
   |(go_at_call 170;refine(E.o _ yB).mono ?_;rintro e X ⟨J,l,rfl,u,g⟩;have r:=cB u;have q:=cB (vB D.o (vB yB g));clear u g))
  go_ret2;rw[m.o];first
   |exact⟨J,l,rfl,r.o,q.o⟩
   |exact⟨_,cap,rfl,j.o.z yB,vB D.o yB⟩
theorem vy(w:eA)(a:jC)(z:Nat)(f:List jB)(c k cr fl:Int)(dn:Bool)(s:pK)(h:SW w a f c s)(hk:s.K=2)(hq:fI f s.N (fC s.N f)=dA):RO w a z f c k cr fl dn s:=by
 unfold RO;obtain⟨hi,d,q,E,G⟩:=XU (c:=c) h.asc (by omega) hq;rw[Ma hk]at G;have S:=cB h.files;have M:=cB E;obtain⟨-,-,hlen,hsum,a0,b0⟩:=h;have F:yA f<=maxLen:=by simp[maxLen];omega
 have R:qC f<=1000000000:=by omega
 have hdz:d.data.size<=1000000000:=by
  have h1:=gI f _ hi;have h2:=pH f (fC s.N f+1);rw[q]at h1;omega
 have N:=cB q;obtain⟨kd,nm,tq,g,sz⟩:=s;dsimp only at *;subst hk;have P:c<(qC f:Int)+(g.size:Int)/\zO f c ⟨2,nm,tq,g,sz⟩=(3,f)\/¬c<(qC f:Int)+(g.size:Int)/\zO f c ⟨2,nm,tq,g,sz⟩=(0,vH f ⟨d.N,d.data++g,d.Y⟩):=by
  by_cases h:c<(qC f:Int)+(g.size:Int)
  .exact Ca ⟨h,by rw[G,Ma h]⟩
  exact La ⟨h,by rw[G,Ja h]⟩
 clear E hq G q;go_enter func101,ntmps101;go_wp2_with fail;apply hC (AA M.o _ ((S.o.z yB).z yB) F);intro m B;obtain⟨n,l,i⟩:=AK B;have K:=cB n;have O:=cB l;have I:=cB i;have u:=cB (S.o.z i);obtain⟨o0,o1,o2,o3,o4⟩:=l.c5;obtain⟨Y,-⟩:=n.c6;obtain⟨b,o,rfl,hb,U,V,X⟩:=u.o.at hi;rw[N.o]at U V X;have hdl:=aB l;clear B n l i;go_wp2_with fail;have j:tB m (m.alloc (vA #[oA d.N,oA d.data,.int .i64 d.Y] 151)):=yB;have D:gB (m.alloc (vA #[oA d.N,oA d.data,.int .i64 d.Y] 151)) m.1.size #[oA d.N,oA d.data,.int .i64 d.Y] 151:=heap_alloc_new _ _;generalize m.alloc (vA #[oA d.N,oA d.data,.int .i64 d.Y] 151)=T at *;have v:=cB (λx:iC T=>(⟨(u.o.z j).z x.h,gB.z (gB.z K.o j) x.h,gB.z (gB.z O.o j) x.h,D.z x.h,vB (vB I.o j) x.h⟩:rB x.w' _ f/\gB x.w' _ _ _/\gB x.w' _ _ _/\gB x.w' _ _ _/\tB w x.w'));have p:=λx=>(v.o x).2.1.c6;have po:=λx=>(v.o x).2.2.1.c5.2.2.2.1;simp only[forall_and]at p;obtain⟨p0,p1,p2,p3,p4,p5⟩:=p;have Q:=iC.there T;clear D j U V X o0 o1 o2 o3 o4 Y;obtain⟨r,H⟩|⟨r,H⟩:=P
 all_goals
  have H:=cB H;refine wB (by kernel_rfl) (by kernel_rfl) ?_;repeat (go_big_quiet_step (first|(go_at_call 99;exact mC (vY _ _ _ _ _ _ _ _ _ (v.o _).1 F R))))
  refine wpQuiet_nil ?_;rintro _ ⟨y,rfl⟩;have t:=cB (v.o y);have Y:=p0 y;have o3:=po y;clear p0 p1 p2 p3 p4 p5 po Q v;generalize y.w'=W at *;clear y;obtain⟨q0,q1,q2⟩:=t.o.2.2.2.1.c3;have r1:=t.o.2.2.2.1.free;go_wp2_with(go_at_call 169;refine(ay ⟨d.N,d.data++g,d.Y⟩ (t.o.1.setCell (by show m.1.size≠b;omega) _) (by omega)).mono ?_;rintro e w5 ⟨a5,A,rfl,Z,C⟩;have L:=cB Z;have J:=cB (vB (t.o.2.2.2.2.setCell (by show w.1.size<=m.1.size;omega) _) C);clear Z C);go_ret2;rw[H.o];first
   |exact⟨a5,A,rfl,L.o,J.o⟩
   |exact⟨_,z,rfl,t.o.1,t.o.2.2.2.2⟩
theorem vz(w:eA)(a:jC)(m:Nat)(g:List jB)(c k cr fl:Int)(dn:Bool)(s:pK)(h:SW w a g c s)(o:s.K=5)(Y:fI g s.N (fC s.N g)=dA):RO w a m g c k cr fl dn s:=by
 unfold RO;obtain⟨I,d,B,A,O⟩:=XU (c:=c) h.asc (by omega) Y;have P:=cB h.files;have G:=cB A;have X:=h.len;have N:yA g<=maxLen:=by simp[maxLen];omega
 have H:=cB B;obtain⟨J,r,q,L,J⟩:=s;dsimp only at *;subst o;have Z:bB (zO g c ⟨5,r,q,L,J⟩=(0,vH (kD g r) ⟨q,d.data,d.Y⟩)):=by show _=_;rw[O];simp
 clear h A Y O B;go_enter func101,ntmps101;go_wp2_with fail;apply hC (AA G.o _ ((P.o.z yB).z yB) N);intro l x;obtain⟨n,j,f⟩:=AK x;have D:=cB n;have J:=cB j;have C:=cB f;have u:=cB (P.o.z f);obtain⟨h,G,O,U,Y⟩:=j.c5;obtain⟨d0,-⟩:=n.c6;obtain⟨b,o,rfl,o,Q,R,S⟩:=u.o.at I;rw[H.o]at Q R S;have o:=aB j;have z:yA (kD g r)<=1048576:=by have:=kT g r;omega
 have K:=cB (λW(o:tB l W)=>WM (cap:=m) r (u.o.z o) (by omega));clear x n j f;generalize kD g r=m at *;go_wp2_with fail;have i:tB l (l.alloc (vA #[oA q,oA d.data,zA d.Y] 151)):=yB;have p:gB (l.alloc (vA #[oA q,oA d.data,zA d.Y] 151)) l.1.size #[oA q,oA d.data,zA d.Y] 151:=heap_alloc_new _ _;generalize l.alloc (vA #[oA q,oA d.data,zA d.Y] 151)=m at *;have t:=cB i;have I:=cB p;obtain⟨m,-⟩:=(gB.z D.o i).c6;obtain⟨-,m,-⟩:=(gB.z J.o i).c5;obtain⟨m,m,m⟩:=p.c3;clear p i Q R S h G O U Y d0;go_region_with (first
  |(go_at_call 170;refine(K.o _ (vB t.o bD.drew)).mono ?_;rintro e h ⟨h,T,rfl,U,y⟩;have E:=cB U;obtain⟨h,h,h⟩:=(I.o.z (vB bD.drew y)).c3)
  |(go_at_call 169;refine(ay ⟨q,d.data,d.Y⟩ E.o z).mono ?_;rintro e w6 ⟨h,v,rfl,V,M⟩;have F:=cB V))
 all_goals
  clear V U;go_wp2;go_ret2;rw[Z.o];exact⟨h,v,rfl,F.o,vB (vB C.o t.o) (vB (vB bD.drew y) M)⟩
theorem aDj(w:eA)(a:jC)(b:Nat)(e:List jB)(c k f i:Int)(g:Bool)(d:pK)(h:SW w a e c d)(j:zB d.K 1 6=dA):RO w a b e c k f i g d:=by grind [zB,RO,fI,fC,aNd,vy,vz,aCj]
