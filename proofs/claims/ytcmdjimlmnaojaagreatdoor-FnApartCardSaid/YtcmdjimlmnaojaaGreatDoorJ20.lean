import Derived.Test.YtcmdjimlmnaojaaGreatDoorJ17
import Derived.Test.YtcmdjimlmnaojaaGreatDoorJ16
set_option maxRecDepth 100000
set_option maxHeartbeats 8000000
open Bool renaming false->dA,true->eA
open Option renaming none->aA
open ByteArray renaming empty->lA
open List renaming length->zA
namespace Go.Proofs.YtcmdjimlmnaojaaGreatDoor
open Value renaming slice->qA,agg->uA,bool->sA,string->pA
open Go renaming World->fA
open Obj renaming cells->xA
open Ending renaming returned->vA
open Go.RowKit Tryz
def aAl(a:List kB):Prop:=∀i(h:i<zA a),a[i].s.size<=1000000000
def aFu(a:List gB):Prop:=∀i(h:i<zA a),a[i].N.size<=maxLen/\aAl a[i].M/\aAl a[i].Z/\zA a[i].M<=1000000000/\zA a[i].Z<=1000000000
structure PS(w W:World)(c:lC)(now:Int)(a:nC)(n cap:Nat):Prop where
 C:jB W w.1.size #[aB c.w,aB c.tl,aB c.ml,aB c.sh,aB c.ha,aB c.sg] 24
 S:jB W (w.1.size+1) #[aB now,qA a n cap] 40
 B:xB w W
theorem PS.z{w W f:fA}{c:lC}{d:Int}{a:nC}{n b:Nat}(h:PS w W c d a n b)(e:xB W f):PS w f c d a n b:=⟨h.C.z e,h.S.z e,aC h.B e⟩
theorem tH(c:lC)(t:Int)(a:nC)(cap:Nat)(v:List gB)(w:fA)(h:aD w a v)(hb:aFu v)(n:zA v<=1000000000):
 cF 44 #[uE c,uA #[aB t,qA a (zA v) cap]] w (sA (iC c t v)):=by
 have G:=dB (λW=>fK c W);have n:cB (iC c t v=(lG c&&yB t 0 1000000000000&&decide (zA v<=10000) &&bN c.w t v)):=rfl;have O:=dB h;have Z:=dB hb;clear h hb;unfold uE at *;have B:(lG c=dA\/lG c=eA/\(yB t 0 1000000000000=dA\/yB t 0 1000000000000=eA/\(10000:Int)<zA v))/\iC c t v=dA\/lG c=eA/\yB t 0 1000000000000=eA/\¬(10000:Int)<zA v/\iC c t v=bN c.w t v:=by
  rw[n.o];cases lG c<;>cases yB t 0 1000000000000<;>simp
  by_cases h:(10000:Int)<zA v
  .exact Ca ⟨h,λC=>by omega⟩
  exact La ⟨by omega,λ_=>by omega⟩
 clear n;have C:=fun{W:fA}(hb:Below _ (fA.alloc (fA.alloc w (xA #[aB c.w,aB c.tl,aB c.ml,aB c.sh,aB c.ha,aB c.sg] 24)) (xA #[aB t,qA a (zA v) cap] 40)) W)=>dB (show PS w W c t a (zA v) cap from⟨((jB.new _ _ _).alloc _).z hb,by have:=(jB.new (w.alloc (xA #[aB c.w,aB c.tl,aB c.ml,aB c.sh,aB c.ha,aB c.sg] 24)) #[aB t,qA a (zA v) cap] 40).z hb;simpa using this,aC (aC bC bC) hb⟩);obtain⟨I|⟨I,J|⟨J,n⟩⟩,E⟩|⟨I,J,n,E⟩:=B
 rotate_left 3;rotate_left 1;iterate 3
  .have E:=dB E
   rw[I]at G
   go_enter func44,ntmps44
   go_wp2_with(first
    |(go_at_call 33;apply jC (G.o _);intro w1 n;have B:=C n;clear n C;obtain⟨S,Y⟩:=B.o.S.c2)
    |(go_at_call 86;refine jC (eE (by assumption) _) ?_;rintro w' rfl))
   go_ret
   exact⟨oB (by rw[E.o]),B.o.B⟩
 have HSB2:=dB E;obtain⟨hn0,hn1⟩:=nL J;rw[I]at G;clear E;go_enter func44,ntmps44;go_wp2_with(first
  |(go_at_call 33;apply jC (G.o _);intro w1 n;have B:=C n;clear n C;obtain⟨S,Y⟩:=B.o.S.c2)
  |(go_at_call 86;apply jC (eE J _);rintro w' rfl))
 clear S Y;go_loopw [5,6,7,8,9,10,29] (λ_ _ _ _ _ _ i wr=>∃k:Nat,k<=zA v/\i=aB k/\iI (lN c.w t v) k=eA/\xB w' wr) (λ_ _ _ _ _ _ i _=>zA v-(intOf i).toNat)
 case atStart=>exact⟨0,Oa _,rfl,rfl,gD⟩
 case round=>
  obtain⟨k,n,rfl,I,J⟩:=hrel;have HOK:=dB I;have G:=dB J;have n:=dB (B.o.z J);clear I J B;by_cases B:k<zA v
  .obtain ⟨b,o,a1,q1,a2,q2,rfl,hbl,m,p,q,r,p1,p2⟩:=(O.o.z n.o.B).at B;obtain⟨S,n2,n3,I,I⟩:=Z.o k B;have F:cB (lN c.w t v k=dA->iC c t v=dA):=λh=>by rw[HSB2.o];exact oP h B
   have I:cB (lN c.w t v k=(eO v k&&cP c.w t v[k])):=tV B;have J:cB (0<k->∃u:pB,eO v k=bK u v[k].N/\yC wr b (o+(k-1)*4) (pA u)):=λz=>by
    refine⟨_,lV z B,?_⟩;obtain⟨b',o',_,_,_,_,e,_,u0,_⟩:=(O.o.z n.o.B).at (i:=k-1) (by omega)
    simp only[Qa,Addr.mk.injEq,Cc]at e;rw[e.1,e.2];exact u0
   have N:cB (k=0->eO v k=eA):=λz=>by subst z;rfl
   generalize v[k]=T at *;have Z:=dB (λW=>rG T.N W S);have X:=dB (λW=>CK T a1 a2 q1 q2 W);have O:cB (cP c.w t T=(uC T.N&&yB T.L (-1) 1000000&&yL T.M&&fL c.w t T.Z&&!xE T)):=rfl;have B:(uC T.N=dA\/uC T.N=eA/\(yB T.L (-1) 1000000=dA\/yB T.L (-1) 1000000=eA/\xE T=eA))/\cP c.w t T=dA\/uC T.N=eA/\yB T.L (-1) 1000000=eA/\xE T=dA/\cP c.w t T=(yL T.M&&fL c.w t T.Z):=by
    rw[O.o];cases uC T.N<;>cases yB T.L (-1) 1000000<;>cases xE T<;>simp
   clear O;obtain⟨B|⟨B,S|⟨S,Y⟩⟩,E⟩|⟨B,S,Y,E⟩:=B
   rotate_left 3;rotate_left 1;iterate 3
    .have E:=dB E
     rw[B]at Z
     try rw[Y]at X
     go_wp2_with(first
      |(go_at_call 47;apply kO (Z.o _))
      |(go_at_call 86;refine kO (eE (by assumption) _) ?_)
      |(go_at_call 103;apply jC (X.o _);intro w3 b0))
     go_ret
     exact⟨oB (F.o (by rw[I.o,E.o];simp)).symm,by first|exact aC n.o.B (aC bC b0)|exact aC n.o.B bC⟩
   have O:=dB E;rw[B]at Z;rw[Y]at X;clear E;go_upto_region 8 with(first
    |(go_at_call 47;apply kO (Z.o _))
    |(go_at_call 86;apply kO (eE S _))
    |(go_at_call 103;apply jC (X.o _);intro w3 b0))
   have T3:=dB ((jB.new wr #[pA T.N,aB T.L,qA a1 (zA T.M) q1,qA a2 (zA T.Z) q2] 131).z b0);have R:=aC bC b0;have P3:=dB (n.o.z R);have B3:=dB (aC G.o R);have Q3:=dB (Vc (p1.z R) (p2.z R));have Y:cB (0<k->∃u:pB,eO v k=bK u T.N/\yC w3 b (o+(k-1)*4) (pA u)):=λz=>by
    obtain⟨u,B,S⟩:=J.o z;exact⟨u,B,(R.cell hbl).trans S⟩
   clear b0 R J p1 p2 m p q r n G X Z;generalize wr.1.size=G at *;clear wr;go_cut [61] (λs wx=>s=sA (!(eO v k))/\xB w3 wx)
   case first=>
    obtain⟨-,x0⟩:=P3.o.S.c2;obtain⟨x1,-⟩:=T3.o.c4;have hv:(∃u,((0:Int)<k/\0<k)/\yC w3 b (o+(k-1)*4) (pA u)/\eO v k=bK u T.N)\/decide ((0:Int)<k)=dA/\decide (0<k)=dA/\eO v k=eA:=by
     by_cases z:0<k
     .obtain ⟨u,hp,U⟩:=Y.o z;exact Ca ⟨u,⟨by omega,z⟩,U,hp⟩
     exact La ⟨by simp;omega,by simp;omega,N.o (by omega)⟩
    obtain⟨u,⟨z,h0'⟩,U,C⟩|⟨hd,hd',C⟩:=hv
    all_goals
     have C:=dB C;go_quiet (fail)
     go_wp2_with fail;go_meet;exact⟨by rw[C.o];rfl,below_drewN gD _⟩
   obtain⟨rfl,Q⟩:=hcut;rename fA=>w4;have T4:=dB (T3.o.z Q);have n:=dB (P3.o.z Q);have B4:=dB (aC B3.o Q);have C:=dB (Q3.o.1.z Q);have P24:=dB (Q3.o.2.z Q);clear Q T3 P3 B3 Q3 Y N;cases e4:eO v k
   .rw[e4]at I;go_wp2;go_ret;exact⟨oB (F.o (by rw[I.o];simp)).symm,n.o.B⟩
   rw[e4]at I;obtain⟨-,-,G,-⟩:=T4.o.c4;go_wp2;clear G;go_loopw [7,8,65] (λ_ _ j wr=>∃i:Nat,i<=zA T.M/\j=aB i/\iI (xL T.M) i=eA/\xB w4 wr) (λ_ _ j _=>zA T.M-(intOf j).toNat)
   case atStart=>exact⟨0,Oa _,rfl,rfl,gD⟩
   case round=>
    obtain⟨i,hi,rfl,l0,e0⟩:=hrel;have M:=dB l0;have y:=dB e0;clear l0 e0;by_cases A:i<zA T.M
    .obtain ⟨pb,po,rfl,m0,c0,c1⟩:=(C.o.z y.o).at A;have Y:cB _:=λh=>F.o (by rw[I.o,O.o];have:yL T.M=dA:=oP h A;rw[this];simp);have Z:cB _:=zY A;have hsz:=n2 i A;have G:cB (0<i->∃u:pB,bM T.M i=bK u T.M[i].s/\yC wr pb (po+(i-1)*2) (pA u)):=λz=>by
      refine⟨_,zS z A,?_⟩;obtain⟨b',o',e,_,u0,_⟩:=(C.o.z y.o).at (i:=i-1) (by omega)
      simp only[Qa,Addr.mk.injEq,Cc]at e;rw[e.1,e.2];exact u0
     have N:cB (i=0->bM T.M i=eA):=λz=>by subst z;rfl
     generalize T.M[i]=P at *;have K:=dB (λW=>qM P.s W hsz);have H:=dB (zF wr (xA #[pA P.s,aB P.n] 184));have MB:=dB (jB.new wr #[pA P.s,aB P.n] 184);go_upto_region 13 with fail;generalize wr.alloc (xA #[pA P.s,aB P.n] 184)=W at *;have D:=dB (aC y.o H.o);have TB:=dB (T4.o.z D.o);have PB:=dB (n.o.z D.o);replace G:cB (0<i->∃u:pB,bM T.M i=bK u P.s/\yC W pb (po+(i-1)*2) (pA u)):=λz=>by
      obtain⟨u,B,S⟩:=G.o z;exact⟨u,B,(H.o.cell m0).trans S⟩
     generalize wr.1.size=mb at *;clear c0 c1 m0 y H wr;go_cut [95] (λs wx=>s=sA (!(xL T.M i))/\xB W wx)
     case first=>
      have d:=λx:kC W=>(⟨(MB.o.z x.h).c2,(TB.o.z x.h).c4,(PB.o.z x.h).S.c2,(PB.o.z x.h).C.c6⟩:_/\_/\_/\_)
      simp only[forall_and]at d;obtain⟨⟨d0,d1⟩,⟨-,-,d2,d3⟩,⟨d4,-⟩,⟨d5,-⟩⟩:=d;have hnel:=kC.there W;have hv:aF P.s=dA/\xL T.M i=dA\/aF P.s=eA/\(yB P.n 0 1000000=dA/\xL T.M i=dA\/yB P.n 0 1000000=eA/\((∃u,((0:Int)<i/\0<i)/\yC W pb (po+(i-1)*2) (pA u)/\xL T.M i=bK u P.s)\/decide ((0:Int)<i)=dA/\decide (0<i)=dA/\xL T.M i=eA)):=by
       rw[Z.o];cases aF P.s
       .exact Ca ⟨rfl,by simp⟩
       refine La ⟨rfl,?_⟩;cases yB P.n 0 1000000
       .exact Ca ⟨rfl,by simp⟩
       refine La ⟨rfl,?_⟩;by_cases z:0<i
       .obtain ⟨u,hp,U⟩:=G.o z;exact Ca ⟨u,⟨by omega,z⟩,U,by rw[hp];simp⟩
       exact La ⟨by simp;omega,by simp;omega,by rw[N.o (by omega)];rfl⟩
      obtain⟨f,L⟩|⟨f,⟨l,L⟩|⟨l,⟨u,⟨z,h0'⟩,U,L⟩|⟨hd,hd',L⟩⟩⟩:=hv
      all_goals
       have L:=dB L;rw[f]at K;try have d6:=kC.cells U
       try clear U
       refine zB (by kernel_rfl) (by kernel_rfl) ?_;repeat (go_big_quiet_step (first|(go_at_call 104;exact oC (K.o _))|(go_at_call 86;exact bD (eE (by assumption) _))))
       refine wpQuiet_nil ?_;rintro _ ⟨x,rfl⟩;go_wp2_with fail;go_meet;exact⟨by rw[L.o];rfl,x.h⟩
     obtain⟨rfl,i0⟩:=hcut;rename fA=>w7;have V:=dB (aC D.o i0);clear i0 D MB TB PB G K;cases f4:xL T.M i
     .have J:=dB f4;go_wp2;go_ret;exact⟨oB (Y.o J.o).symm,aC n.o.B V.o⟩
     have J:cB (iI (xL T.M) (i+1)=eA):=by show _=_;rw[lL,M.o,f4];rfl
     go_wp2;exact⟨⟨i+1,by omega,by go_num,J.o,V.o⟩,by simp[intOf];omega⟩
    .have ei:i=zA T.M:=by omega
     have HMB:cB (yL T.M=eA):=by have:=M.o;rw[ei]at this;exact this
     clear ei;replace T4:=dB (T4.o.z y.o);replace n:=dB (n.o.z y.o);replace B4:=dB (aC B4.o y.o);have P25:=dB (P24.o.z y.o);obtain⟨-,-,-,y3⟩:=T4.o.c4;clear C P24 y M;go_wp2;clear y3;generalize C:wr=wo at *;clear C;go_loopw [9,10,100] (λ_ _ j wr=>∃i:Nat,i<=zA T.Z/\j=aB i/\iI (jJ c.w t T.Z) i=eA/\xB wo wr) (λ_ _ j _=>zA T.Z-(intOf j).toNat)
     case atStart=>exact⟨0,Oa _,rfl,rfl,gD⟩
     case round=>
      obtain⟨i,hi,rfl,l0,e0⟩:=hrel;have M:=dB l0;have y:=dB e0;clear l0 e0;by_cases A:i<zA T.Z
      .obtain ⟨pb,po,rfl,m0,c0,c1⟩:=(P25.o.z y.o).at A;have Y:cB _:=λh=>F.o (by rw[I.o,O.o];have:fL c.w t T.Z=dA:=oP h A;rw[this];simp);have Z:cB (jJ c.w t T.Z i=(bM T.Z i&&qK T.Z[i].s&&yB T.Z[i].n 0 t&&decide (t-T.Z[i].n<c.w))):=oV A;have hsz:=n3 i A;have G:cB (0<i->∃u:pB,bM T.Z i=bK u T.Z[i].s/\yC wr pb (po+(i-1)*2) (pA u)):=λz=>by
        refine⟨_,zS z A,?_⟩;obtain⟨b',o',e,_,u0,_⟩:=(P25.o.z y.o).at (i:=i-1) (by omega)
        simp only[Qa,Addr.mk.injEq,Cc]at e;rw[e.1,e.2];exact u0
       have N:cB (i=0->bM T.Z i=eA):=λz=>by subst z;rfl
       generalize T.Z[i]=P at *;have K:=dB (λW=>IM P.s W hsz);have H:=dB (zF wr (xA #[pA P.s,aB P.n] 134));have MB:=dB (jB.new wr #[pA P.s,aB P.n] 134);go_upto_region 19 with fail;generalize wr.alloc (xA #[pA P.s,aB P.n] 134)=W at *;have D:=dB (aC y.o H.o);have TB:=dB (T4.o.z D.o);have PB:=dB (n.o.z D.o);replace G:cB (0<i->∃u:pB,bM T.Z i=bK u P.s/\yC W pb (po+(i-1)*2) (pA u)):=λz=>by
        obtain⟨u,B,S⟩:=G.o z;exact⟨u,B,(H.o.cell m0).trans S⟩
       generalize wr.1.size=mb at *;clear c0 c1 m0 y H wr;go_cut [142] (λs wx=>s=sA (!(jJ c.w t T.Z i))/\xB W wx)
       case first=>
        have d:=λx:kC W=>(⟨(MB.o.z x.h).c2,(TB.o.z x.h).c4,(PB.o.z x.h).S.c2,(PB.o.z x.h).C.c6⟩:_/\_/\_/\_)
        simp only[forall_and]at d;obtain⟨⟨d0,d1⟩,⟨-,-,d2,d3⟩,⟨d4,-⟩,⟨d5,-⟩⟩:=d;have hnel:=kC.there W;have hv:qK P.s=dA/\jJ c.w t T.Z i=dA\/qK P.s=eA/\(yB P.n 0 t=dA/\jJ c.w t T.Z i=dA\/yB P.n 0 t=eA/\(0<=P.n/\P.n<=t)/\(c.w<=t-P.n/\jJ c.w t T.Z i=dA\/decide (c.w<=t-P.n)=dA/\((∃u,((0:Int)<i/\0<i)/\yC W pb (po+(i-1)*2) (pA u)/\jJ c.w t T.Z i=bK u P.s)\/decide ((0:Int)<i)=dA/\decide (0<i)=dA/\jJ c.w t T.Z i=eA))):=by
         rw[Z.o];cases qK P.s
         .exact Ca ⟨rfl,by simp⟩
         refine La ⟨rfl,?_⟩;cases hb:yB P.n 0 t
         .exact Ca ⟨rfl,by simp⟩
         refine La ⟨rfl,nL hb,?_⟩;by_cases g:c.w<=t-P.n
         .exact Ca ⟨g,by rw[Ub (show ¬t-P.n<c.w by omega)];simp⟩
         refine La ⟨by simpa using g,?_⟩;rw[Ac (show t-P.n<c.w by omega)];by_cases z:0<i
         .obtain ⟨u,hp,U⟩:=G.o z;exact Ca ⟨u,⟨by omega,z⟩,U,by rw[hp];simp⟩
         exact La ⟨by simp;omega,by simp;omega,by rw[N.o (by omega)];rfl⟩
        obtain⟨f,L⟩|⟨f,⟨l,L⟩|⟨l,⟨h,h⟩,⟨g,L⟩|⟨g,⟨u,⟨z,h0'⟩,U,L⟩|⟨hd,hd',L⟩⟩⟩⟩:=hv
        all_goals
         have L:=dB L;rw[f]at K;try have d6:=kC.cells U
         try clear U
         refine zB (by kernel_rfl) (by kernel_rfl) ?_;repeat (go_big_quiet_step (first|(go_at_call 105;exact oC (K.o _))|(go_at_call 86;exact bD (eE (by assumption) _))))
         refine wpQuiet_nil ?_;rintro _ ⟨x,rfl⟩;go_wp2_with fail;go_meet;exact⟨by rw[L.o];rfl,x.h⟩
       obtain⟨rfl,i0⟩:=hcut;rename fA=>w7;have V:=dB (aC D.o i0);clear i0 D MB TB PB G K;cases f4:jJ c.w t T.Z i
       .have J:=dB f4;go_wp2;go_ret;exact⟨oB (Y.o J.o).symm,aC n.o.B V.o⟩
       have J:cB (iI (jJ c.w t T.Z) (i+1)=eA):=by show _=_;rw[lL,M.o,f4];rfl
       go_wp2;exact⟨⟨i+1,by omega,by go_num,J.o,V.o⟩,by simp[intOf];omega⟩
      .have ei:i=zA T.Z:=by omega
       have h:cB (fL c.w t T.Z=eA):=by have:=M.o;rw[ei]at this;exact this
       have B:cB (iI (lN c.w t v) (k+1)=eA):=by
        show _=_;rw[lL,HOK.o,I.o,O.o,HMB.o,h.o];rfl
       clear ei;go_wp2;exact⟨⟨k+1,by omega,by go_num,B.o,aC B4.o y.o⟩,by simp[intOf];omega⟩
  have B:k=zA v:=by omega
  have h:cB (iC c t v=eA):=by show _=_;rw[HSB2.o];have:=HOK.o;rw[B]at this;exact this
  go_wp2;go_ret;exact⟨oB h.o.symm,n.o.B⟩
def aFw(w:fA)(e:Ending)(t:gB):Prop:=∃a c b d,e=vA (uA #[pA t.N,aB t.L,qA a (zA t.M) c,qA b (zA t.Z) d])/\mC w a t.M/\mC w b t.Z
theorem tW(q:Int)(a:nC)(p:Nat)(l:List gB)(name:pB)(w:fA)(N:aD w a l)(O:zA l<=1000000000):
 Calls prog 56 #[uA #[aB q,qA a (zA l) p],pA name] w λe X=>aFw X e (rB l name)/\xB w X:=by
 have I:cB (aD w a l):=N;have x:cB (rB l name=(xC (·.N) name l).getD ⟨name,-1,[],[]⟩):=rfl;clear N;go_enter func56,ntmps56;go_wp2;have M:cB _:=dB (by have:=jB.new (w.alloc (xA #[aB q,qA a (zA l) p] 40)) #[pA ⟨#[]⟩,aB 0,qA aA 0 0,qA aA 0 0] 131;simpa using this);have L:cB (xB w ((w.alloc (xA #[aB q,qA a (zA l) p] 40)).alloc (xA #[pA ⟨#[]⟩,aB 0,qA aA 0 0,qA aA 0 0] 131))):=aC bC bC;generalize h:(w.alloc (xA #[aB q,qA a (zA l) p] 40)).alloc (xA #[pA ⟨#[]⟩,aB 0,qA aA 0 0,qA aA 0 0] 131)=W at *;clear h;go_loopw [6,10] (λ_ i wr=>∃k:Nat,k<=zA l/\i=aB k/\cB (∀j(h:j<k)(J:j<zA l),l[j].N≠name)/\xB W wr) (λ_ i _=>zA l-(intOf i).toNat)
 case atStart=>exact⟨0,Oa _,rfl,(λj h=>absurd h (by omega)),gD⟩
 case round=>
  obtain⟨k,m,rfl,F,m⟩:=hrel;have E:cB _:=m;have n:cB (jB wr (w.1.size+1) #[pA ⟨#[]⟩,aB 0,qA aA 0 0,qA aA 0 0] 131):=M.o.z m;have G:=bB n.o;have R:yC wr (w.1.size+1) 0 (pA ⟨#[]⟩):=n.o.cell 0;have S:yC wr (w.1.size+1) 1 (aB 0):=n.o.cell 1;have U:yC wr (w.1.size+1) 2 (qA aA 0 0):=n.o.cell 2;have V:yC wr (w.1.size+1) 3 (qA aA 0 0):=n.o.cell 3;have O:=n.o.free 0;have O:=n.o.free 1;have O:=n.o.free 2;have O:=n.o.free 3;clear m M;by_cases A:k<zA l
  .obtain ⟨b,o,y,C,z,D,rfl,B,Y,Z,z2,z3,P,Q⟩:=I.o.at A;have r:cB _:=aC L.o E.o;have c:=(r.o.cell B).trans Y;have d:=(r.o.cell B).trans Z;have f:=(r.o.cell B).trans z2;have g:=(r.o.cell B).trans z3;clear Y Z z2 z3;have m:cB (xC (·.N) name l=if l[k].N=name then some l[k] else xC (·.N) name (l.drop (k+1))):=by
    show _=_;rw[CF k F.o,Cb A,lF]
   have u:cB (l[k].N≠name->∀j(h:j<k+1)(J:j<zA l),l[j].N≠name):=λK j h J=>by
    by_cases e:j=k
    .subst e;exact K
    exact F.o j (by omega) J
   have h:cB (mC w y l[k].M):=P;have J:cB (mC w z l[k].Z):=Q;clear P Q;generalize l[k]=T at *;by_cases t:T.N=name
   .have I:=(gE _ _).2 t;have H:cB (rB l name=T):=by show _=_;rw[x.o,m.o,Ma t];rfl
    clear t;go_wp2;have s:xB w (((((wr.setCell (eB (w.1.size+1) 0) (pA T.N)).setCell (eB (w.1.size+1) 1) (aB T.L)).setCell (eB (w.1.size+1) 2) (qA y (zA T.M) C)).setCell (eB (w.1.size+1) 3) (qA z (zA T.Z) D)).alloc (xA #[pA T.N,aB T.L,qA y (zA T.M) C,qA z (zA T.Z) D] 131)):=aC (((((r.o.setCell (by simp) _).setCell (by simp) _).setCell (by simp) _).setCell (by simp) _)) bC;refine bodyPost_ret (v:=uA #[pA T.N,aB T.L,qA y (zA T.M) C,qA z (zA T.Z) D]) (by simp[results,results56,go_sem,R,S,U,V,G]) rfl ⟨?_,s⟩;rw[H.o];exact⟨y,C,z,D,rfl,h.o.z s,J.o.z s⟩
   have I:=yD t;have G:cB _:=u.o t;clear t;go_wp2;exact⟨⟨k+1,by omega,by go_num,G,aC E.o bC⟩,by simp[intOf];omega⟩
  .have H:cB (rB l name=⟨name,-1,[],[]⟩):=by
    show _=_;rw[x.o,CF k F.o,Yb (by omega)];rfl
   have r:cB _:=aC L.o E.o;go_wp2;refine bodyPost_ret (v:=uA #[pA name,aB (-1),qA aA 0 0,qA aA 0 0]) (by simp[results,results56,go_sem,R,S,U,V]) rfl ⟨?_,(((((r.o.setCell (by simp) _).setCell (by simp) _).setCell (by simp) _).setCell (by simp) _))⟩;rw[H.o];exact⟨aA,0,aA,0,rfl,Ca rfl,Ca rfl⟩
theorem KJ(c:lC)(t:gB)(q o:nC)(v r:Nat)(m:pB)(w:fA)(G:mC w q t.M)(H:mC w o t.Z)(C:aAl t.Z)(e:zA t.M<=1000000000)(e:zA t.Z<=1000000000):
 cF 114 #[uE c,uA #[pA t.N,aB t.L,qA q (zA t.M) v,qA o (zA t.Z) r],pA m] w (.tuple #[aB (pE c t m).1,aB (pE c t m).2]):=by
 unfold uE;by_cases z:m.toList.isEmpty=eA
 .have p:cB (pE c t m=(((zA t.Z:Nat):Int),if t.L<0 then c.tl else t.L)):=by show _=_;unfold pE;rw[Ma z]
  clear G H C;by_cases R:t.L<0
  .go_enter func114,ntmps114;go_wp2;go_ret2;exact⟨eL (by rw[p.o]) (by rw[p.o];exact(Ma R).symm),aC bC bC⟩
  have f:cB (¬t.L<0):=R;go_enter func114,ntmps114;go_wp2;go_ret2;exact⟨eL (by rw[p.o]) (by rw[p.o];have e:=f.o;exact(Ja (by omega)).symm),aC bC bC⟩
 have Y:m.toList.isEmpty=dA:=by simpa using z
 have p:cB (pE c t m=(((tI dE t.Z m:Nat):Int),cH t.M m c.ml)):=by show _=_;unfold pE;rw[Ja z]
 have U:cB (mC w q t.M):=G;have V:cB (mC w o t.Z):=H;have B:cB (aAl t.Z):=C;clear G H C z;go_enter func114,ntmps114;go_wp2;have M:cB _:=dB (by have:=jB.new (w.alloc (xA #[aB c.w,aB c.tl,aB c.ml,aB c.sh,aB c.ha,aB c.sg] 24)) #[pA t.N,aB t.L,qA q (zA t.M) v,qA o (zA t.Z) r] 131;simpa using this);have A:cB (xB w ((w.alloc (xA #[aB c.w,aB c.tl,aB c.ml,aB c.sh,aB c.ha,aB c.sg] 24)).alloc (xA #[pA t.N,aB t.L,qA q (zA t.M) v,qA o (zA t.Z) r] 131))):=aC bC bC;generalize (w.alloc (xA #[aB c.w,aB c.tl,aB c.ml,aB c.sh,aB c.ha,aB c.sg] 24)).alloc (xA #[pA t.N,aB t.L,qA q (zA t.M) v,qA o (zA t.Z) r] 131)=W at *;go_loopw [9,11,32] (λl _ i wr=>∃k:Nat,k<=zA t.M/\i=aB k/\l=aB (cH (t.M.take k) m c.ml)/\xB W wr) (λ_ _ i _=>zA t.M-(intOf i).toNat)
 case atStart=>exact⟨0,Oa _,rfl,rfl,gD⟩
 case round=>
  obtain⟨k,e,rfl,rfl,a⟩:=hrel;have d:cB _:=a;clear a;by_cases y:k<zA t.M
  .obtain ⟨Z,po,rfl,E,z0,z1⟩:=(U.o.z (aC A.o d.o)).at y;have g:cB (cH (t.M.take (k+1)) m c.ml=if t.M[k].s.toList==m.toList then t.M[k].n else cH (t.M.take k) m c.ml):=gl _ _ _ _ y;generalize t.M[k]=P at *;generalize cH (t.M.take k) m c.ml=T at *;by_cases h:(P.s.toList==m.toList)=eA
   .have f:cB (cH (t.M.take (k+1)) m c.ml=P.n):=by show _=_;rw[g.o,Ma h]
    clear g;go_wp2;exact⟨⟨k+1,by omega,by go_num,by rw[f.o],aC d.o bC⟩,by simp[intOf];omega⟩
   have D:(P.s.toList==m.toList)=dA:=by simpa using h
   have f:cB (cH (t.M.take (k+1)) m c.ml=T):=by show _=_;rw[g.o,Ja h]
   clear g h;go_wp2;exact⟨⟨k+1,by omega,by go_num,by rw[f.o],aC d.o bC⟩,by simp[intOf];omega⟩
  have Q:t.M.take k=t.M:=Ra (by omega);rw[Q];clear Q;generalize cH t.M m c.ml=e at *;have N:cB (jB wr (w.1.size+1) #[pA t.N,aB t.L,qA q (zA t.M) v,qA o (zA t.Z) r] 131):=M.o.z d.o;have J:cB _:=aC A.o d.o;have e:yC wr (w.1.size+1) 3 (qA o (zA t.Z) r):=N.o.cell 3;clear M A d;generalize F:wr=S at *;clear F;go_wp2;clear e N;go_loopw [12,14,46] (λn _ i wr=>∃k:Nat,k<=zA t.Z/\i=aB k/\n=aB (tI dE (t.Z.take k) m:Nat)/\xB S wr) (λ_ _ i _=>zA t.Z-(intOf i).toNat)
  case atStart=>exact⟨0,Oa _,rfl,rfl,gD⟩
  case round=>
   obtain⟨j,e,rfl,rfl,a⟩:=hrel;have d:cB _:=a;clear a;by_cases b:j<zA t.Z
   .obtain ⟨Z,po,rfl,E,z0,z1⟩:=(V.o.z (aC J.o d.o)).at b;have g:cB (tI dE (t.Z.take (j+1)) m=tI dE (t.Z.take j) m+if (dE t.Z[j].s).toList==m.toList then 1 else 0):=vi _ _ _ b;have K:cB (∀W,cF 169 #[pA t.Z[j].s] W (pA (dE t.Z[j].s))):=λW=>lZ t.Z[j].s W (B.o j b);have X:tI dE (t.Z.take j) m<=1000000000:=by have:=XJ dE (t.Z.take j) m;rw[Hb]at this;omega
    generalize t.Z[j]=P at *;generalize dE P.s=mk at *;generalize tI dE (t.Z.take j) m=L at *;go_wp2_with fail;apply jC (K.o _);intro e x;have u:cB _:=aC d.o (aC bC x);clear x K;by_cases h:(mk.toList==m.toList)=eA
    .have f:cB (tI dE (t.Z.take (j+1)) m=L+1):=by show _=_;rw[g.o,Ma h]
     clear g;go_wp2;exact⟨⟨j+1,by omega,by go_num,by rw[f.o];go_num,u.o⟩,by simp[intOf];omega⟩
    have D:(mk.toList==m.toList)=dA:=by simpa using h
    have f:cB (tI dE (t.Z.take (j+1)) m=L):=by show _=_;rw[g.o,Ja h];rfl
    clear g h;go_wp2;exact⟨⟨j+1,by omega,by go_num,by rw[f.o],u.o⟩,by simp[intOf];omega⟩
   have O:t.Z.take j=t.Z:=Ra (by omega);rw[O];clear O;go_wp2;go_ret2;exact⟨eL (by rw[p.o]) (by rw[p.o]),aC J.o d.o⟩
theorem AK{w e:fA}{x y:Array Value}{b d:TypeId}(f:Below ((w.alloc (xA x b)).alloc (xA y d)).1.size ((w.alloc (xA x b)).alloc (xA y d)) e):
 jB e w.1.size x b/\jB e (w.1.size+1) y d/\xB w e:=by
 refine⟨?_,?_,aC (aC bC bC) f⟩;exact (jB.z (jB.z (g:=w.1.size) (heap_alloc_new w (xA x b)) gD) bC).z f;have h:=jB.z (g:=(w.alloc (xA x b)).1.size) (heap_alloc_new (w.alloc (xA x b)) (xA y d)) f;simpa using h
def aAn(w:fA)(b:Nat)(a:nC)(n cap:Nat)(c k cr fl:Int)(dn:Bool):Prop:=jB w b #[qA a n cap,aB c,aB k,aB cr,aB fl,sA dn] 35
structure TF(w:World)(a:nC)(fs:List iB)(c:Int)(op:oK):Prop where
 files:uB w a fs
 asc:lT fs
 len:zA fs≤1000
 sum:(pC fs:Int)≤c
 cap:c≤1000000000
 data:op.data.size≤200000000
def RU(w:fA)(a:nC)(cap:Nat)(fs:List iB)(c k cr fl:Int)(dn:Bool)(op:oK):Prop:=
 Calls prog 93 #[uA #[qA a (zA fs) cap,aB c,aB k,aB cr,aB fl,sA dn],uA #[aB op.K,pA op.N,pA op.tq,pA op.data,aB op.size]] w λe f=>
  ∃d b,e=vA (.tuple #[.slice d (zA (jN fs c op).2) b,aB (jN fs c op).1])/\uB f d (jN fs c op).2/\xB w f
section
variable {w:fA} {a:nC} {cap:Nat} {fs:List iB} {c k cr fl:Int} {dn:Bool} {op:oK}
theorem AD{d:Int}{t:pB}{x:Int}(h:mE t fs 0=x)(w:fA)(f:uB w a fs)(b:zA fs<=maxLen):
 cF 36 #[uA #[qA a (zA fs) cap,aB c,aB d,aB cr,aB fl,sA dn],pA t] w (aB x):=h ▸ sW a cap fs c d cr fl dn t w f b
theorem aw(f:iB)(j:uB w a fs)(l:zA fs<=1048576):Calls prog 163 #[qA a (zA fs) cap,uA #[pA f.N,pA f.data,aB f.Y]] w λe g=>∃d b,e=vA (.slice d (zA (yG fs f)) b)/\uB g d (yG fs f)/\xB w g:=
 (od a cap fs f w j l).mono λe g ⟨v,i,n,h⟩=>by obtain⟨d,b,rfl,m⟩:=qH n;exact⟨d,b,i,m.files,h⟩
theorem aJb{x:Nat×List iB}{f:iB}(_:x=(0,yG fs f))(h:uB w a fs)(i:zA fs<=1048576):Calls prog 163 #[qA a (zA fs) cap,uA #[pA f.N,pA f.data,aB f.Y]] w λe g=>∃d b,e=vA (.slice d (zA (yG fs f)) b)/\uB g d (yG fs f)/\xB w g:=aw f h i
theorem WO(t:pB)(i:uB w a fs)(j:zA fs<=1048576):Calls prog 164 #[qA a (zA fs) cap,pA t] w λe f=>∃d b,e=vA (.slice d (zA (vC fs t)) b)/\uB f d (vC fs t)/\xB w f:=
 (AZ a cap fs t w i j).mono λe f ⟨v,h,m,g⟩=>by obtain⟨d,b,rfl,l⟩:=qH m;exact⟨d,b,h,l.files,g⟩
theorem XT(d:lT fs)(f:op.K≠1)(g:yH fs op.N (dC op.N fs)=eA):∃(e:dC op.N fs<zA fs)(b:iB),fs[dC op.N fs]=b/\mE op.N fs 0=(dC op.N fs:Int)/\
 jN fs c op=if op.K=2 then(if c<pC fs+op.data.size then(3,fs) else(0,yG fs ⟨b.N,b.data++op.data,b.Y⟩)) else if op.K=3 then(0,yG fs ⟨b.N,b.data,b.data.size⟩)
  else if op.K=4 then(if yB op.size 0 b.data.size=eA then(0,yG fs ⟨b.N,b.data.extract 0 op.size.toNat,op.size⟩) else(6,fs)) else if op.K=5 then(0,yG (vC fs op.N) ⟨op.tq,b.data,b.Y⟩) else(0,vC fs op.N):=by grind [lT,yH,dC,mE,jN,pC,yG,yB,vC,wZ,GK,EJ,iJ,UK,qQ]
end
theorem aNb(w:fA)(a:nC)(cap:Nat)(fs:List iB)(c k cr fl:Int)(dn:Bool)(op:oK)(h:TF w a fs c op)(B:op.K=1\/op.K≠1/\yH fs op.N (dC op.N fs)=dA):RU w a cap fs c k cr fl dn op:=by
 unfold RU;have d:∃x,mE op.N fs 0=x/\(op.K=1/\(x=(dC op.N fs:Int)/\jN fs c op=(5,fs)\/x = -1/\((zA fs:Int)=1000/\jN fs c op=(3,fs)\/¬(zA fs:Int)=1000/\jN fs c op=(0,yG fs ⟨op.N,lA,0⟩)))\/(op.K==1)=dA/\x = -1/\jN fs c op=(4,fs)):=by
  refine⟨_,EJ h.asc (iJ op.N h.asc),?_⟩;obtain g|⟨g,i⟩:=B
  .cases i:yH fs op.N (dC op.N fs)
   .refine Ca ⟨g,La ⟨by simp,?_⟩⟩;have:=h.len;by_cases v:zA fs=1000
    .exact Ca ⟨by omega,by simp[jN,g,i,v]⟩
    refine La ⟨by omega,?_⟩;rw[wV (f:=⟨op.N,lA,0⟩) h.asc i];simp only[jN,Ma g,i,Bd,Cf];rw[Ja (by omega)]
   exact Ca ⟨g,Ca ⟨by simp,by simp[jN,g,i]⟩⟩
  exact La ⟨by simpa using g,by simp[i],JV g i⟩
 obtain⟨x,r,d⟩:=d;have A:=dB h.files;have m:=dB r;have D:=h.len;have y:zA fs<=maxLen:=by simp[maxLen];omega
 obtain⟨I,G,M,F,L⟩:=op;clear h B r;dsimp only at d m |-
 obtain⟨rfl,⟨rfl,j⟩|⟨rfl,⟨v,j⟩|⟨v,j⟩⟩⟩|⟨g,rfl,j⟩:=d
 all_goals
  have j:=dB j;go_enter func93,ntmps93;go_wp2_with fail;apply jC (AD m.o _ ((A.o.z bC).z bC) y);intro N o;obtain⟨q,s,b⟩:=AK o;have z:=dB b;have l:=dB (A.o.z b);obtain⟨J,K,-⟩:=s.c5;obtain⟨H,-⟩:=q.c6;clear o q s b;go_wp2_with(go_at_call 163;refine(aw ⟨G,lA,0⟩ l.o (by omega)).mono ?_;rintro e O ⟨E,n,rfl,C,p⟩;have u:=dB C;have t:=dB (aC z.o p);clear C p);go_ret2;rw[j.o];first
   |exact⟨a,cap,rfl,l.o,z.o⟩
   |exact⟨E,n,rfl,u.o,t.o⟩
theorem aCc(w:fA)(a:nC)(cap:Nat)(fs:List iB)(c k cr fl:Int)(dn:Bool)(op:oK)(h:TF w a fs c op)(f:op.K=3\/op.K=4\/op.K=6)(N:yH fs op.N (dC op.N fs)=eA):RU w a cap fs c k cr fl dn op:=by
 unfold RU;obtain⟨L,d,A,z,p⟩:=XT (c:=c) h.asc (by omega) N;have x:op.K=3/\jN fs c op=(0,yG fs ⟨d.N,d.data,d.data.size⟩)\/op.K=4/\(yB op.size 0 d.data.size=dA/\jN fs c op=(6,fs)\/yB op.size 0 d.data.size=eA/\(0<=op.size/\op.size<=d.data.size)/\jN fs c op=(0,yG fs ⟨d.N,d.data.extract 0 op.size.toNat,op.size⟩))\/op.K=6/\jN fs c op=(0,vC fs op.N):=by
  obtain f|f|f:=f;exact Ca ⟨f,by rw[p];simp[f]⟩
  .refine La (Ca ⟨f,?_⟩);cases B:yB op.size 0 d.data.size
   .exact Ca ⟨rfl,by rw[p];simp[f,B]⟩
   exact La ⟨rfl,by simpa[yB]using B,by rw[p];simp[f,B]⟩
  exact La (La ⟨f,by rw[p];simp[f]⟩)
 have I:=dB h.files;have s:=dB z;have M:=h.len;have H:zA fs<=maxLen:=by simp[maxLen];omega
 have t:=dB A;obtain⟨m,V,m,R,m⟩:=op;clear h f z N p A;dsimp only at x s t L |-
 obtain⟨rfl,m⟩|⟨rfl,⟨B,m⟩|⟨B,⟨T,U⟩,m⟩⟩|⟨rfl,m⟩:=x
 all_goals
  have m:=dB m;go_enter func93,ntmps93;go_wp2_with fail;apply jC (AD s.o _ ((I.o.z bC).z bC) H);intro C v;obtain⟨y,n,i⟩:=AK v;have D:=dB i;have j:=dB (I.o.z i);obtain⟨h,h,h,h,h⟩:=n.c5;obtain⟨Y,-⟩:=y.c6;obtain⟨b,o,rfl,Z,O,P,Q⟩:=j.o.at L;rw[t.o]at O P Q;have S:=bB n;have K:w.1.size<C.1.size:=by omega
  try have F:=dB (λW(G:xB C W)=>aJb (cap:=cap) m.o (j.o.z G) (by omega))
  have E:=dB (λW(G:xB C W)=>WO (cap:=cap) V (j.o.z G) (by omega));clear v y n i;go_wp2_with(first
   |(go_at_call 86;refine jC (eE (by assumption) _) ?_;rintro h rfl)
   |(go_at_call 163;refine(F.o _ bC).mono ?_;rintro e X ⟨J,l,rfl,u,g⟩;have r:=dB u;have q:=dB (aC D.o (aC bC g));clear u g)
   |(go_at_call 164;refine(E.o _ bC).mono ?_;rintro e X ⟨J,l,rfl,u,g⟩;have r:=dB u;have q:=dB (aC D.o (aC bC g));clear u g))
  go_ret2;rw[m.o];first
   |exact⟨J,l,rfl,r.o,q.o⟩
   |exact⟨_,cap,rfl,j.o.z bC,aC D.o bC⟩
theorem vy(w:fA)(a:nC)(z:Nat)(f:List iB)(c k cr fl:Int)(dn:Bool)(s:oK)(h:TF w a f c s)(hk:s.K=2)(hq:yH f s.N (dC s.N f)=eA):RU w a z f c k cr fl dn s:=by
 unfold RU;obtain⟨hi,d,q,E,G⟩:=XT (c:=c) h.asc (by omega) hq;rw[Ma hk]at G;have S:=dB h.files;have M:=dB E;obtain⟨-,-,hlen,hsum,a0,b0⟩:=h;have F:zA f<=maxLen:=by simp[maxLen];omega
 have R:pC f<=1000000000:=by omega
 have hdz:d.data.size<=1000000000:=by
  have h1:=kI f _ hi;have h2:=xH f (dC s.N f+1);rw[q]at h1;omega
 have N:=dB q;obtain⟨kd,nm,tq,g,sz⟩:=s;dsimp only at *;subst hk;have P:c<(pC f:Int)+(g.size:Int)/\jN f c ⟨2,nm,tq,g,sz⟩=(3,f)\/¬c<(pC f:Int)+(g.size:Int)/\jN f c ⟨2,nm,tq,g,sz⟩=(0,yG f ⟨d.N,d.data++g,d.Y⟩):=by
  by_cases h:c<(pC f:Int)+(g.size:Int)
  .exact Ca ⟨h,by rw[G,Ma h]⟩
  exact La ⟨h,by rw[G,Ja h]⟩
 clear E hq G q;go_enter func93,ntmps93;go_wp2_with fail;apply jC (AD M.o _ ((S.o.z bC).z bC) F);intro m B;obtain⟨n,l,i⟩:=AK B;have K:=dB n;have O:=dB l;have I:=dB i;have u:=dB (S.o.z i);obtain⟨o0,o1,o2,o3,o4⟩:=l.c5;obtain⟨Y,-⟩:=n.c6;obtain⟨b,o,rfl,hb,U,V,X⟩:=u.o.at hi;rw[N.o]at U V X;have hdl:=bB l;clear B n l i;go_wp2_with fail;have j:xB m (m.alloc (xA #[pA d.N,pA d.data,.int .i64 d.Y] 144)):=bC;have D:jB (m.alloc (xA #[pA d.N,pA d.data,.int .i64 d.Y] 144)) m.1.size #[pA d.N,pA d.data,.int .i64 d.Y] 144:=heap_alloc_new _ _;generalize m.alloc (xA #[pA d.N,pA d.data,.int .i64 d.Y] 144)=T at *;have v:=dB (λx:kC T=>(⟨(u.o.z j).z x.h,jB.z (jB.z K.o j) x.h,jB.z (jB.z O.o j) x.h,D.z x.h,aC (aC I.o j) x.h⟩:uB x.w' _ f/\jB x.w' _ _ _/\jB x.w' _ _ _/\jB x.w' _ _ _/\xB w x.w'));have p:=λx=>(v.o x).2.1.c6;have po:=λx=>(v.o x).2.2.1.c5.2.2.2.1;simp only[forall_and]at p;obtain⟨p0,p1,p2,p3,p4,p5⟩:=p;have Q:=kC.there T;clear D j U V X o0 o1 o2 o3 o4 Y;obtain⟨r,H⟩|⟨r,H⟩:=P
 all_goals
  have H:=dB H;refine zB (by kernel_rfl) (by kernel_rfl) ?_;repeat (go_big_quiet_step (first|(go_at_call 91;exact oC (xY _ _ _ _ _ _ _ _ _ (v.o _).1 F R))))
  refine wpQuiet_nil ?_;rintro _ ⟨y,rfl⟩;have t:=dB (v.o y);have Y:=p0 y;have o3:=po y;clear p0 p1 p2 p3 p4 p5 po Q v;generalize y.w'=W at *;clear y;obtain⟨q0,q1,q2⟩:=t.o.2.2.2.1.c3;have r1:=t.o.2.2.2.1.free;go_wp2_with(go_at_call 163;refine(aw ⟨d.N,d.data++g,d.Y⟩ (t.o.1.setCell (by show m.1.size≠b;omega) _) (by omega)).mono ?_;rintro e w5 ⟨a5,A,rfl,Z,C⟩;have L:=dB Z;have J:=dB (aC (t.o.2.2.2.2.setCell (by show w.1.size<=m.1.size;omega) _) C);clear Z C);go_ret2;rw[H.o];first
   |exact⟨a5,A,rfl,L.o,J.o⟩
   |exact⟨_,z,rfl,t.o.1,t.o.2.2.2.2⟩
theorem vz(w:fA)(a:nC)(m:Nat)(g:List iB)(c k cr fl:Int)(dn:Bool)(s:oK)(h:TF w a g c s)(o:s.K=5)(Y:yH g s.N (dC s.N g)=eA):RU w a m g c k cr fl dn s:=by
 unfold RU;obtain⟨I,d,B,A,O⟩:=XT (c:=c) h.asc (by omega) Y;have P:=dB h.files;have G:=dB A;have X:=h.len;have N:zA g<=maxLen:=by simp[maxLen];omega
 have H:=dB B;obtain⟨J,r,q,L,J⟩:=s;dsimp only at *;subst o;have Z:cB (jN g c ⟨5,r,q,L,J⟩=(0,yG (vC g r) ⟨q,d.data,d.Y⟩)):=by show _=_;rw[O];simp
 clear h A Y O B;go_enter func93,ntmps93;go_wp2_with fail;apply jC (AD G.o _ ((P.o.z bC).z bC) N);intro l x;obtain⟨n,j,f⟩:=AK x;have D:=dB n;have J:=dB j;have C:=dB f;have u:=dB (P.o.z f);obtain⟨h,G,O,Y,o4⟩:=j.c5;obtain⟨d0,-⟩:=n.c6;obtain⟨b,o,rfl,o,Q,R,S⟩:=u.o.at I;rw[H.o]at Q R S;have o:=bB j;have z:zA (vC g r)<=1048576:=by have:=kT g r;omega
 have K:=dB (λW(o:xB l W)=>WO (cap:=m) r (u.o.z o) (by omega));clear x n j f;generalize vC g r=m at *;go_wp2_with fail;have i:xB l (l.alloc (xA #[pA q,pA d.data,aB d.Y] 144)):=bC;have p:jB (l.alloc (xA #[pA q,pA d.data,aB d.Y] 144)) l.1.size #[pA q,pA d.data,aB d.Y] 144:=heap_alloc_new _ _;generalize l.alloc (xA #[pA q,pA d.data,aB d.Y] 144)=m at *;have t:=dB i;have I:=dB p;obtain⟨m,-⟩:=(jB.z D.o i).c6;obtain⟨-,m,-⟩:=(jB.z J.o i).c5;obtain⟨m,m,m⟩:=p.c3;clear p i Q R S h G O Y o4 d0;go_region_with (first
  |(go_at_call 164;refine(K.o _ (aC t.o gD.drew)).mono ?_;rintro e h ⟨h,T,rfl,U,y⟩;have E:=dB U;obtain⟨h,h,h⟩:=(I.o.z (aC gD.drew y)).c3)
  |(go_at_call 163;refine(aw ⟨q,d.data,d.Y⟩ E.o z).mono ?_;rintro e w6 ⟨h,v,rfl,V,M⟩;have F:=dB V))
 all_goals
  clear V U;go_wp2;go_ret2;rw[Z.o];exact⟨h,v,rfl,F.o,aC (aC C.o t.o) (aC (aC gD.drew y) M)⟩
theorem aDg(w:fA)(a:nC)(b:Nat)(e:List iB)(c k f i:Int)(g:Bool)(d:oK)(h:TF w a e c d)(j:yB d.K 1 6=eA):RU w a b e c k f i g d:=by grind [yB,RU,yH,dC,aNb,vy,vz,aCc]
