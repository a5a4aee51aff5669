import Derived.Test.YtejebmgbenmimaaGreatDoorJ16
import Derived.Test.YtejebmgbenmimaaGreatDoorJ15
set_option maxRecDepth 100000
set_option maxHeartbeats 8000000
open Bool renaming false->gA,true->iA
open Option renaming none->eA
open ByteArray renaming empty->pA
open List renaming length->cB
namespace Go.Proofs.YtejebmgbenmimaaGreatDoor
open Value renaming slice->uA,agg->yA,bool->vA,string->tA
open Go renaming World->jA
open Obj renaming cells->aB
open Ending renaming returned->zA
open Go.RowKit Tryz
def ye(a:List pB):Prop:=∀i(h:i<cB a),a[i].s.size<=1000000000
def aDw(a:List kB):Prop:=∀i(h:i<cB a),a[i].N.size<=maxLen/\ye a[i].M/\ye a[i].Z/\cB a[i].M<=1000000000/\cB a[i].Z<=1000000000
structure PS(w W:World)(c:kC)(now:Int)(a:nC)(n cap:Nat):Prop where
 C:rB W w.1.size #[dB c.w,dB c.tl,dB c.ml,dB c.sh,dB c.ha,dB c.sg] 24
 S:rB W (w.1.size+1) #[dB now,uA a n cap] 40
 B:zB w W
theorem PS.z{w W f:jA}{c:kC}{d:Int}{a:nC}{n b:Nat}(h:PS w W c d a n b)(e:zB W f):PS w f c d a n b:=⟨h.C.z e,h.S.z e,xB h.B e⟩
theorem rH(c:kC)(t:Int)(a:nC)(cap:Nat)(v:List kB)(w:jA)(h:uC w a v)(hb:aDw v)(n:cB v<=1000000000):
 gF 44 #[oE c,yA #[dB t,uA a (cB v) cap]] w (vA (pC c t v)):=by
 have G:=gB (λW=>xL c W);have n:fB (pC c t v=(mH c&&dC t 0 1000000000000&&decide (cB v<=10000) &&wM c.w t v)):=rfl;have O:=gB h;have Y:=gB hb;clear h hb;unfold oE at *;have B:(mH c=gA\/mH c=iA/\(dC t 0 1000000000000=gA\/dC t 0 1000000000000=iA/\(10000:Int)<cB v))/\pC c t v=gA\/mH c=iA/\dC t 0 1000000000000=iA/\¬(10000:Int)<cB v/\pC c t v=wM c.w t v:=by
  rw[n.o];cases mH c<;>cases dC t 0 1000000000000<;>simp
  by_cases h:(10000:Int)<cB v
  .exact Ca ⟨h,λC=>by omega⟩
  exact La ⟨by omega,λ_=>by omega⟩
 clear n;have C:=fun{W:jA}(hb:Below _ (jA.alloc (jA.alloc w (aB #[dB c.w,dB c.tl,dB c.ml,dB c.sh,dB c.ha,dB c.sg] 24)) (aB #[dB t,uA a (cB v) cap] 40)) W)=>gB (show PS w W c t a (cB v) cap from⟨((rB.new _ _ _).alloc _).z hb,by have:=(rB.new (w.alloc (aB #[dB c.w,dB c.tl,dB c.ml,dB c.sh,dB c.ha,dB c.sg] 24)) #[dB t,uA a (cB v) cap] 40).z hb;simpa using this,xB (xB aC aC) hb⟩);obtain⟨I|⟨I,J|⟨J,n⟩⟩,E⟩|⟨I,J,n,E⟩:=B
 rotate_left 3;rotate_left 1;iterate 3
  .have E:=gB E
   rw[I]at G
   go_enter func44,ntmps44
   go_wp2_with(first
    |(go_at_call 53;apply oC (G.o _);intro w1 n;have B:=C n;clear n C;obtain⟨S,U⟩:=B.o.S.c2)
    |(go_at_call 103;refine oC (gE (by assumption) _) ?_;rintro w' rfl))
   go_ret
   exact⟨tB (by rw[E.o]),B.o.B⟩
 have HSB2:=gB E;obtain⟨Z,Z⟩:=gL J;rw[I]at G;clear E;go_enter func44,ntmps44;go_wp2_with(first
  |(go_at_call 53;apply oC (G.o _);intro w1 n;have B:=C n;clear n C;obtain⟨S,U⟩:=B.o.S.c2)
  |(go_at_call 103;apply oC (gE J _);rintro w' rfl))
 clear S U;go_loopw [5,6,7,8,9,10,29] (λ_ _ _ _ _ _ i wr=>∃k:Nat,k<=cB v/\i=dB k/\hI (eN c.w t v) k=iA/\zB w' wr) (λ_ _ _ _ _ _ i _=>cB v-(intOf i).toNat)
 case atStart=>exact⟨0,Oa _,rfl,rfl,jD⟩
 case round=>
  obtain⟨k,n,rfl,I,J⟩:=hrel;have HOK:=gB I;have G:=gB J;have n:=gB (B.o.z J);clear I J B;by_cases B:k<cB v
  .obtain ⟨b,o,a1,q1,a2,q2,rfl,hbl,m,p,q,r,p1,p2⟩:=(O.o.z n.o.B).at B;obtain⟨S,n2,n3,I,I⟩:=Y.o k B;have F:fB (eN c.w t v k=gA->pC c t v=gA):=λh=>by rw[HSB2.o];exact fP h B
   have I:fB (eN c.w t v k=(aO v k&&wO c.w t v[k])):=sV B;have J:fB (0<k->∃u:vB,aO v k=vJ u v[k].N/\gD wr b (o+(k-1)*4) (tA u)):=λz=>by
    refine⟨_,kV z B,?_⟩;obtain⟨b',o',_,_,_,_,e,_,u0,_⟩:=(O.o.z n.o.B).at (i:=k-1) (by omega)
    simp only[Qa,Addr.mk.injEq,Cc]at e;rw[e.1,e.2];exact u0
   have N:fB (k=0->aO v k=iA):=λz=>by subst z;rfl
   generalize v[k]=T at *;have Z:=gB (λW=>qG T.N W S);have X:=gB (λW=>CH T a1 a2 q1 q2 W);have O:fB (wO c.w t T=(xC T.N&&dC T.L (-1) 1000000&&tL T.M&&vK c.w t T.Z&&!eF T)):=rfl;have B:(xC T.N=gA\/xC T.N=iA/\(dC T.L (-1) 1000000=gA\/dC T.L (-1) 1000000=iA/\eF T=iA))/\wO c.w t T=gA\/xC T.N=iA/\dC T.L (-1) 1000000=iA/\eF T=gA/\wO c.w t T=(tL T.M&&vK c.w t T.Z):=by
    rw[O.o];cases xC T.N<;>cases dC T.L (-1) 1000000<;>cases eF T<;>simp
   clear O;obtain⟨B|⟨B,S|⟨S,Y⟩⟩,E⟩|⟨B,S,Y,E⟩:=B
   rotate_left 3;rotate_left 1;iterate 3
    .have E:=gB E
     rw[B]at Z
     try rw[Y]at X
     go_wp2_with(first
      |(go_at_call 66;apply dR (Z.o _))
      |(go_at_call 103;refine dR (gE (by assumption) _) ?_)
      |(go_at_call 121;apply oC (X.o _);intro w3 U))
     go_ret
     exact⟨tB (F.o (by rw[I.o,E.o];simp)).symm,by first|exact xB n.o.B (xB aC U)|exact xB n.o.B aC⟩
   have O:=gB E;rw[B]at Z;rw[Y]at X;clear E;go_upto_region 8 with(first
    |(go_at_call 66;apply dR (Z.o _))
    |(go_at_call 103;apply dR (gE S _))
    |(go_at_call 121;apply oC (X.o _);intro w3 U))
   have T3:=gB ((rB.new wr #[tA T.N,dB T.L,uA a1 (cB T.M) q1,uA a2 (cB T.Z) q2] 105).z U);have R:=xB aC U;have P3:=gB (n.o.z R);have B3:=gB (xB G.o R);have Q3:=gB (Vc (p1.z R) (p2.z R));have Y:fB (0<k->∃u:vB,aO v k=vJ u T.N/\gD w3 b (o+(k-1)*4) (tA u)):=λz=>by
    obtain⟨u,B,S⟩:=J.o z;exact⟨u,B,(R.cell hbl).trans S⟩
   clear U R J p1 p2 m p q r n G X Z;generalize wr.1.size=G at *;clear wr;go_cut [61] (λs wx=>s=vA (!(aO v k))/\zB w3 wx)
   case first=>
    obtain⟨-,G⟩:=P3.o.S.c2;obtain⟨G,-⟩:=T3.o.c4;have hv:(∃u,((0:Int)<k/\0<k)/\gD w3 b (o+(k-1)*4) (tA u)/\aO v k=vJ u T.N)\/decide ((0:Int)<k)=gA/\decide (0<k)=gA/\aO v k=iA:=by
     by_cases z:0<k
     .obtain ⟨u,hp,U⟩:=Y.o z;exact Ca ⟨u,⟨by omega,z⟩,U,hp⟩
     exact La ⟨by simp;omega,by simp;omega,N.o (by omega)⟩
    obtain⟨u,⟨z,h0'⟩,U,C⟩|⟨hd,hd',C⟩:=hv
    all_goals
     have C:=gB C;go_quiet (fail)
     go_wp2_with fail;go_meet;exact⟨by rw[C.o];rfl,below_drewN jD _⟩
   obtain⟨rfl,Q⟩:=hcut;rename jA=>w4;have T4:=gB (T3.o.z Q);have n:=gB (P3.o.z Q);have B4:=gB (xB B3.o Q);have C:=gB (Q3.o.1.z Q);have P24:=gB (Q3.o.2.z Q);clear Q T3 P3 B3 Q3 Y N;cases e4:aO v k
   .rw[e4]at I;go_wp2;go_ret;exact⟨tB (F.o (by rw[I.o];simp)).symm,n.o.B⟩
   rw[e4]at I;obtain⟨-,-,G,-⟩:=T4.o.c4;go_wp2;clear G;go_loopw [7,8,65] (λ_ _ j wr=>∃i:Nat,i<=cB T.M/\j=dB i/\hI (sL T.M) i=iA/\zB w4 wr) (λ_ _ j _=>cB T.M-(intOf j).toNat)
   case atStart=>exact⟨0,Oa _,rfl,rfl,jD⟩
   case round=>
    obtain⟨i,hi,rfl,l0,e0⟩:=hrel;have M:=gB l0;have y:=gB e0;clear l0 e0;by_cases A:i<cB T.M
    .obtain ⟨pb,po,rfl,m0,c0,c1⟩:=(C.o.z y.o).at A;have Y:fB _:=λh=>F.o (by rw[I.o,O.o];have:tL T.M=gA:=fP h A;rw[this];simp);have Z:fB _:=bZ A;have hsz:=n2 i A;have G:fB (0<i->∃u:vB,wL T.M i=vJ u T.M[i].s/\gD wr pb (po+(i-1)*2) (tA u)):=λz=>by
      refine⟨_,dT z A,?_⟩;obtain⟨b',o',e,_,u0,_⟩:=(C.o.z y.o).at (i:=i-1) (by omega)
      simp only[Qa,Addr.mk.injEq,Cc]at e;rw[e.1,e.2];exact u0
     have N:fB (i=0->wL T.M i=iA):=λz=>by subst z;rfl
     generalize T.M[i]=P at *;have K:=gB (λW=>kM P.s W hsz);have H:=gB (uF wr (aB #[tA P.s,dB P.n] 107));have MB:=gB (rB.new wr #[tA P.s,dB P.n] 107);go_upto_region 13 with fail;generalize wr.alloc (aB #[tA P.s,dB P.n] 107)=W at *;have D:=gB (xB y.o H.o);have TB:=gB (T4.o.z D.o);have PB:=gB (n.o.z D.o);replace G:fB (0<i->∃u:vB,wL T.M i=vJ u P.s/\gD W pb (po+(i-1)*2) (tA u)):=λz=>by
      obtain⟨u,B,S⟩:=G.o z;exact⟨u,B,(H.o.cell m0).trans S⟩
     generalize wr.1.size=mb at *;clear c0 c1 m0 y H wr;go_cut [95] (λs wx=>s=vA (!(sL T.M i))/\zB W wx)
     case first=>
      have d:=λx:mC W=>(⟨(MB.o.z x.h).c2,(TB.o.z x.h).c4,(PB.o.z x.h).S.c2,(PB.o.z x.h).C.c6⟩:_/\_/\_/\_)
      simp only[forall_and]at d;obtain⟨⟨d0,d1⟩,⟨-,-,d2,d3⟩,⟨d4,-⟩,⟨d5,-⟩⟩:=d;have hnel:=mC.there W;have hv:dF P.s=gA/\sL T.M i=gA\/dF P.s=iA/\(dC P.n 0 1000000=gA/\sL T.M i=gA\/dC P.n 0 1000000=iA/\((∃u,((0:Int)<i/\0<i)/\gD W pb (po+(i-1)*2) (tA u)/\sL T.M i=vJ u P.s)\/decide ((0:Int)<i)=gA/\decide (0<i)=gA/\sL T.M i=iA)):=by
       rw[Z.o];cases dF P.s
       .exact Ca ⟨rfl,by simp⟩
       refine La ⟨rfl,?_⟩;cases dC P.n 0 1000000
       .exact Ca ⟨rfl,by simp⟩
       refine La ⟨rfl,?_⟩;by_cases z:0<i
       .obtain ⟨u,hp,U⟩:=G.o z;exact Ca ⟨u,⟨by omega,z⟩,U,by rw[hp];simp⟩
       exact La ⟨by simp;omega,by simp;omega,by rw[N.o (by omega)];rfl⟩
      obtain⟨f,L⟩|⟨f,⟨l,L⟩|⟨l,⟨u,⟨z,h0'⟩,U,L⟩|⟨hd,hd',L⟩⟩⟩:=hv
      all_goals
       have L:=gB L;rw[f]at K;try have d6:=mC.cells U
       try clear U
       refine bC (by kernel_rfl) (by kernel_rfl) ?_;repeat (go_big_quiet_step (first|(go_at_call 122;exact rC (K.o _))|(go_at_call 103;exact dD (gE (by assumption) _))))
       refine wpQuiet_nil ?_;rintro _ ⟨x,rfl⟩;go_wp2_with fail;go_meet;exact⟨by rw[L.o];rfl,x.h⟩
     obtain⟨rfl,i0⟩:=hcut;rename jA=>w7;have V:=gB (xB D.o i0);clear i0 D MB TB PB G K;cases f4:sL T.M i
     .have J:=gB f4;go_wp2;go_ret;exact⟨tB (Y.o J.o).symm,xB n.o.B V.o⟩
     have J:fB (hI (sL T.M) (i+1)=iA):=by show _=_;rw[fL,M.o,f4];rfl
     go_wp2;exact⟨⟨i+1,by omega,by go_num,J.o,V.o⟩,by simp[intOf];omega⟩
    .have ei:i=cB T.M:=by omega
     have HMB:fB (tL T.M=iA):=by have:=M.o;rw[ei]at this;exact this
     clear ei;replace T4:=gB (T4.o.z y.o);replace n:=gB (n.o.z y.o);replace B4:=gB (xB B4.o y.o);have P25:=gB (P24.o.z y.o);obtain⟨-,-,-,y3⟩:=T4.o.c4;clear C P24 y M;go_wp2;clear y3;generalize C:wr=wo at *;clear C;go_loopw [9,10,100] (λ_ _ j wr=>∃i:Nat,i<=cB T.Z/\j=dB i/\hI (cJ c.w t T.Z) i=iA/\zB wo wr) (λ_ _ j _=>cB T.Z-(intOf j).toNat)
     case atStart=>exact⟨0,Oa _,rfl,rfl,jD⟩
     case round=>
      obtain⟨i,hi,rfl,l0,e0⟩:=hrel;have M:=gB l0;have y:=gB e0;clear l0 e0;by_cases A:i<cB T.Z
      .obtain ⟨pb,po,rfl,m0,c0,c1⟩:=(P25.o.z y.o).at A;have Y:fB _:=λh=>F.o (by rw[I.o,O.o];have:vK c.w t T.Z=gA:=fP h A;rw[this];simp);have Z:fB (cJ c.w t T.Z i=(wL T.Z i&&gK T.Z[i].s&&dC T.Z[i].n 0 t&&decide (t-T.Z[i].n<c.w))):=nV A;have hsz:=n3 i A;have G:fB (0<i->∃u:vB,wL T.Z i=vJ u T.Z[i].s/\gD wr pb (po+(i-1)*2) (tA u)):=λz=>by
        refine⟨_,dT z A,?_⟩;obtain⟨b',o',e,_,u0,_⟩:=(P25.o.z y.o).at (i:=i-1) (by omega)
        simp only[Qa,Addr.mk.injEq,Cc]at e;rw[e.1,e.2];exact u0
       have N:fB (i=0->wL T.Z i=iA):=λz=>by subst z;rfl
       generalize T.Z[i]=P at *;have K:=gB (λW=>GX P.s W hsz);have H:=gB (uF wr (aB #[tA P.s,dB P.n] 109));have MB:=gB (rB.new wr #[tA P.s,dB P.n] 109);go_upto_region 19 with fail;generalize wr.alloc (aB #[tA P.s,dB P.n] 109)=W at *;have D:=gB (xB y.o H.o);have TB:=gB (T4.o.z D.o);have PB:=gB (n.o.z D.o);replace G:fB (0<i->∃u:vB,wL T.Z i=vJ u P.s/\gD W pb (po+(i-1)*2) (tA u)):=λz=>by
        obtain⟨u,B,S⟩:=G.o z;exact⟨u,B,(H.o.cell m0).trans S⟩
       generalize wr.1.size=mb at *;clear c0 c1 m0 y H wr;go_cut [142] (λs wx=>s=vA (!(cJ c.w t T.Z i))/\zB W wx)
       case first=>
        have d:=λx:mC W=>(⟨(MB.o.z x.h).c2,(TB.o.z x.h).c4,(PB.o.z x.h).S.c2,(PB.o.z x.h).C.c6⟩:_/\_/\_/\_)
        simp only[forall_and]at d;obtain⟨⟨d0,d1⟩,⟨-,-,d2,d3⟩,⟨d4,-⟩,⟨d5,-⟩⟩:=d;have hnel:=mC.there W;have hv:gK P.s=gA/\cJ c.w t T.Z i=gA\/gK P.s=iA/\(dC P.n 0 t=gA/\cJ c.w t T.Z i=gA\/dC P.n 0 t=iA/\(0<=P.n/\P.n<=t)/\(c.w<=t-P.n/\cJ c.w t T.Z i=gA\/decide (c.w<=t-P.n)=gA/\((∃u,((0:Int)<i/\0<i)/\gD W pb (po+(i-1)*2) (tA u)/\cJ c.w t T.Z i=vJ u P.s)\/decide ((0:Int)<i)=gA/\decide (0<i)=gA/\cJ c.w t T.Z i=iA))):=by
         rw[Z.o];cases gK P.s
         .exact Ca ⟨rfl,by simp⟩
         refine La ⟨rfl,?_⟩;cases hb:dC P.n 0 t
         .exact Ca ⟨rfl,by simp⟩
         refine La ⟨rfl,gL hb,?_⟩;by_cases g:c.w<=t-P.n
         .exact Ca ⟨g,by rw[Ub (show ¬t-P.n<c.w by omega)];simp⟩
         refine La ⟨by simpa using g,?_⟩;rw[Ac (show t-P.n<c.w by omega)];by_cases z:0<i
         .obtain ⟨u,hp,U⟩:=G.o z;exact Ca ⟨u,⟨by omega,z⟩,U,by rw[hp];simp⟩
         exact La ⟨by simp;omega,by simp;omega,by rw[N.o (by omega)];rfl⟩
        obtain⟨f,L⟩|⟨f,⟨l,L⟩|⟨l,⟨h,h⟩,⟨g,L⟩|⟨g,⟨u,⟨z,h0'⟩,U,L⟩|⟨hd,hd',L⟩⟩⟩⟩:=hv
        all_goals
         have L:=gB L;rw[f]at K;try have d6:=mC.cells U
         try clear U
         refine bC (by kernel_rfl) (by kernel_rfl) ?_;repeat (go_big_quiet_step (first|(go_at_call 123;exact rC (K.o _))|(go_at_call 103;exact dD (gE (by assumption) _))))
         refine wpQuiet_nil ?_;rintro _ ⟨x,rfl⟩;go_wp2_with fail;go_meet;exact⟨by rw[L.o];rfl,x.h⟩
       obtain⟨rfl,i0⟩:=hcut;rename jA=>w7;have V:=gB (xB D.o i0);clear i0 D MB TB PB G K;cases f4:cJ c.w t T.Z i
       .have J:=gB f4;go_wp2;go_ret;exact⟨tB (Y.o J.o).symm,xB n.o.B V.o⟩
       have J:fB (hI (cJ c.w t T.Z) (i+1)=iA):=by show _=_;rw[fL,M.o,f4];rfl
       go_wp2;exact⟨⟨i+1,by omega,by go_num,J.o,V.o⟩,by simp[intOf];omega⟩
      .have ei:i=cB T.Z:=by omega
       have h:fB (vK c.w t T.Z=iA):=by have:=M.o;rw[ei]at this;exact this
       have B:fB (hI (eN c.w t v) (k+1)=iA):=by
        show _=_;rw[fL,HOK.o,I.o,O.o,HMB.o,h.o];rfl
       clear ei;go_wp2;exact⟨⟨k+1,by omega,by go_num,B.o,xB B4.o y.o⟩,by simp[intOf];omega⟩
  have B:k=cB v:=by omega
  have h:fB (pC c t v=iA):=by show _=_;rw[HSB2.o];have:=HOK.o;rw[B]at this;exact this
  go_wp2;go_ret;exact⟨tB h.o.symm,n.o.B⟩
def aDy(w:jA)(e:Ending)(t:kB):Prop:=∃a c b d,e=zA (yA #[tA t.N,dB t.L,uA a (cB t.M) c,uA b (cB t.Z) d])/\jC w a t.M/\jC w b t.Z
theorem uW(q:Int)(a:nC)(p:Nat)(l:List kB)(name:vB)(w:jA)(N:uC w a l)(O:cB l<=1000000000):
 Calls prog 74 #[yA #[dB q,uA a (cB l) p],tA name] w λe X=>aDy X e (eC l name)/\zB w X:=by
 have I:fB (uC w a l):=N;have x:fB (eC l name=(eD (·.N) name l).getD ⟨name,-1,[],[]⟩):=rfl;clear N;go_enter func74,ntmps74;go_wp2;have M:fB _:=gB (by have:=rB.new (w.alloc (aB #[dB q,uA a (cB l) p] 40)) #[tA ⟨#[]⟩,dB 0,uA eA 0 0,uA eA 0 0] 105;simpa using this);have L:fB (zB w ((w.alloc (aB #[dB q,uA a (cB l) p] 40)).alloc (aB #[tA ⟨#[]⟩,dB 0,uA eA 0 0,uA eA 0 0] 105))):=xB aC aC;generalize h:(w.alloc (aB #[dB q,uA a (cB l) p] 40)).alloc (aB #[tA ⟨#[]⟩,dB 0,uA eA 0 0,uA eA 0 0] 105)=W at *;clear h;go_loopw [6,10] (λ_ i wr=>∃k:Nat,k<=cB l/\i=dB k/\fB (∀j(h:j<k)(J:j<cB l),l[j].N≠name)/\zB W wr) (λ_ i _=>cB l-(intOf i).toNat)
 case atStart=>exact⟨0,Oa _,rfl,(λj h=>absurd h (by omega)),jD⟩
 case round=>
  obtain⟨k,m,rfl,F,m⟩:=hrel;have E:fB _:=m;have n:fB (rB wr (w.1.size+1) #[tA ⟨#[]⟩,dB 0,uA eA 0 0,uA eA 0 0] 105):=M.o.z m;have G:=eB n.o;have R:gD wr (w.1.size+1) 0 (tA ⟨#[]⟩):=n.o.cell 0;have S:gD wr (w.1.size+1) 1 (dB 0):=n.o.cell 1;have U:gD wr (w.1.size+1) 2 (uA eA 0 0):=n.o.cell 2;have V:gD wr (w.1.size+1) 3 (uA eA 0 0):=n.o.cell 3;have O:=n.o.free 0;have O:=n.o.free 1;have O:=n.o.free 2;have O:=n.o.free 3;clear m M;by_cases A:k<cB l
  .obtain ⟨b,o,y,C,z,D,rfl,B,Y,Z,z2,z3,P,Q⟩:=I.o.at A;have r:fB _:=xB L.o E.o;have c:=(r.o.cell B).trans Y;have d:=(r.o.cell B).trans Z;have f:=(r.o.cell B).trans z2;have g:=(r.o.cell B).trans z3;clear Y Z z2 z3;have m:fB (eD (·.N) name l=if l[k].N=name then some l[k] else eD (·.N) name (l.drop (k+1))):=by
    show _=_;rw[CA k F.o,Cb A,rS]
   have u:fB (l[k].N≠name->∀j(h:j<k+1)(J:j<cB l),l[j].N≠name):=λK j h J=>by
    by_cases e:j=k
    .subst e;exact K
    exact F.o j (by omega) J
   have h:fB (jC w y l[k].M):=P;have J:fB (jC w z l[k].Z):=Q;clear P Q;generalize l[k]=T at *;by_cases t:T.N=name
   .have I:=(mE _ _).2 t;have H:fB (eC l name=T):=by show _=_;rw[x.o,m.o,Ma t];rfl
    clear t;go_wp2;have s:zB w (((((wr.setCell (iB (w.1.size+1) 0) (tA T.N)).setCell (iB (w.1.size+1) 1) (dB T.L)).setCell (iB (w.1.size+1) 2) (uA y (cB T.M) C)).setCell (iB (w.1.size+1) 3) (uA z (cB T.Z) D)).alloc (aB #[tA T.N,dB T.L,uA y (cB T.M) C,uA z (cB T.Z) D] 105)):=xB (((((r.o.setCell (by simp) _).setCell (by simp) _).setCell (by simp) _).setCell (by simp) _)) aC;refine bodyPost_ret (v:=yA #[tA T.N,dB T.L,uA y (cB T.M) C,uA z (cB T.Z) D]) (by simp[results,results74,go_sem,R,S,U,V,G]) rfl ⟨?_,s⟩;rw[H.o];exact⟨y,C,z,D,rfl,h.o.z s,J.o.z s⟩
   have I:=aE t;have G:fB _:=u.o t;clear t;go_wp2;exact⟨⟨k+1,by omega,by go_num,G,xB E.o aC⟩,by simp[intOf];omega⟩
  .have H:fB (eC l name=⟨name,-1,[],[]⟩):=by
    show _=_;rw[x.o,CA k F.o,Yb (by omega)];rfl
   have r:fB _:=xB L.o E.o;go_wp2;refine bodyPost_ret (v:=yA #[tA name,dB (-1),uA eA 0 0,uA eA 0 0]) (by simp[results,results74,go_sem,R,S,U,V]) rfl ⟨?_,(((((r.o.setCell (by simp) _).setCell (by simp) _).setCell (by simp) _).setCell (by simp) _))⟩;rw[H.o];exact⟨eA,0,eA,0,rfl,Ca rfl,Ca rfl⟩
theorem JU(c:kC)(t:kB)(q o:nC)(v r:Nat)(m:vB)(w:jA)(G:jC w q t.M)(H:jC w o t.Z)(C:ye t.Z)(e:cB t.M<=1000000000)(e:cB t.Z<=1000000000):
 gF 145 #[oE c,yA #[tA t.N,dB t.L,uA q (cB t.M) v,uA o (cB t.Z) r],tA m] w (.tuple #[dB (uE c t m).1,dB (uE c t m).2]):=by
 unfold oE;by_cases z:m.toList.isEmpty=iA
 .have p:fB (uE c t m=(((cB t.Z:Nat):Int),if t.L<0 then c.tl else t.L)):=by show _=_;unfold uE;rw[Ma z]
  clear G H C;by_cases R:t.L<0
  .go_enter func145,ntmps145;go_wp2;go_ret2;exact⟨tK (by rw[p.o]) (by rw[p.o];exact(Ma R).symm),xB aC aC⟩
  have f:fB (¬t.L<0):=R;go_enter func145,ntmps145;go_wp2;go_ret2;exact⟨tK (by rw[p.o]) (by rw[p.o];have e:=f.o;exact(Ja (by omega)).symm),xB aC aC⟩
 have Y:m.toList.isEmpty=gA:=by simpa using z
 have p:fB (uE c t m=(((sI cE t.Z m:Nat):Int),zG t.M m c.ml)):=by show _=_;unfold uE;rw[Ja z]
 have U:fB (jC w q t.M):=G;have V:fB (jC w o t.Z):=H;have B:fB (ye t.Z):=C;clear G H C z;go_enter func145,ntmps145;go_wp2;have M:fB _:=gB (by have:=rB.new (w.alloc (aB #[dB c.w,dB c.tl,dB c.ml,dB c.sh,dB c.ha,dB c.sg] 24)) #[tA t.N,dB t.L,uA q (cB t.M) v,uA o (cB t.Z) r] 105;simpa using this);have A:fB (zB w ((w.alloc (aB #[dB c.w,dB c.tl,dB c.ml,dB c.sh,dB c.ha,dB c.sg] 24)).alloc (aB #[tA t.N,dB t.L,uA q (cB t.M) v,uA o (cB t.Z) r] 105))):=xB aC aC;generalize (w.alloc (aB #[dB c.w,dB c.tl,dB c.ml,dB c.sh,dB c.ha,dB c.sg] 24)).alloc (aB #[tA t.N,dB t.L,uA q (cB t.M) v,uA o (cB t.Z) r] 105)=W at *;go_loopw [9,11,32] (λl _ i wr=>∃k:Nat,k<=cB t.M/\i=dB k/\l=dB (zG (t.M.take k) m c.ml)/\zB W wr) (λ_ _ i _=>cB t.M-(intOf i).toNat)
 case atStart=>exact⟨0,Oa _,rfl,rfl,jD⟩
 case round=>
  obtain⟨k,e,rfl,rfl,a⟩:=hrel;have d:fB _:=a;clear a;by_cases y:k<cB t.M
  .obtain ⟨Z,po,rfl,E,z0,z1⟩:=(U.o.z (xB A.o d.o)).at y;have g:fB (zG (t.M.take (k+1)) m c.ml=if t.M[k].s.toList==m.toList then t.M[k].n else zG (t.M.take k) m c.ml):=ec _ _ _ _ y;generalize t.M[k]=P at *;generalize zG (t.M.take k) m c.ml=T at *;by_cases h:(P.s.toList==m.toList)=iA
   .have f:fB (zG (t.M.take (k+1)) m c.ml=P.n):=by show _=_;rw[g.o,Ma h]
    clear g;go_wp2;exact⟨⟨k+1,by omega,by go_num,by rw[f.o],xB d.o aC⟩,by simp[intOf];omega⟩
   have D:(P.s.toList==m.toList)=gA:=by simpa using h
   have f:fB (zG (t.M.take (k+1)) m c.ml=T):=by show _=_;rw[g.o,Ja h]
   clear g h;go_wp2;exact⟨⟨k+1,by omega,by go_num,by rw[f.o],xB d.o aC⟩,by simp[intOf];omega⟩
  have Q:t.M.take k=t.M:=Ra (by omega);rw[Q];clear Q;generalize zG t.M m c.ml=e at *;have N:fB (rB wr (w.1.size+1) #[tA t.N,dB t.L,uA q (cB t.M) v,uA o (cB t.Z) r] 105):=M.o.z d.o;have J:fB _:=xB A.o d.o;have e:gD wr (w.1.size+1) 3 (uA o (cB t.Z) r):=N.o.cell 3;clear M A d;generalize F:wr=S at *;clear F;go_wp2;clear e N;go_loopw [12,14,46] (λn _ i wr=>∃k:Nat,k<=cB t.Z/\i=dB k/\n=dB (sI cE (t.Z.take k) m:Nat)/\zB S wr) (λ_ _ i _=>cB t.Z-(intOf i).toNat)
  case atStart=>exact⟨0,Oa _,rfl,rfl,jD⟩
  case round=>
   obtain⟨j,e,rfl,rfl,a⟩:=hrel;have d:fB _:=a;clear a;by_cases b:j<cB t.Z
   .obtain ⟨Z,po,rfl,E,z0,z1⟩:=(V.o.z (xB J.o d.o)).at b;have g:fB (sI cE (t.Z.take (j+1)) m=sI cE (t.Z.take j) m+if (cE t.Z[j].s).toList==m.toList then 1 else 0):=rz _ _ _ b;have K:fB (∀W,gF 200 #[tA t.Z[j].s] W (tA (cE t.Z[j].s))):=λW=>nZ t.Z[j].s W (B.o j b);have X:sI cE (t.Z.take j) m<=1000000000:=by have:=WJ cE (t.Z.take j) m;rw[Hb]at this;omega
    generalize t.Z[j]=P at *;generalize cE P.s=mk at *;generalize sI cE (t.Z.take j) m=L at *;go_wp2_with fail;apply oC (K.o _);intro e x;have u:fB _:=xB d.o (xB aC x);clear x K;by_cases h:(mk.toList==m.toList)=iA
    .have f:fB (sI cE (t.Z.take (j+1)) m=L+1):=by show _=_;rw[g.o,Ma h]
     clear g;go_wp2;exact⟨⟨j+1,by omega,by go_num,by rw[f.o];go_num,u.o⟩,by simp[intOf];omega⟩
    have D:(mk.toList==m.toList)=gA:=by simpa using h
    have f:fB (sI cE (t.Z.take (j+1)) m=L):=by show _=_;rw[g.o,Ja h];rfl
    clear g h;go_wp2;exact⟨⟨j+1,by omega,by go_num,by rw[f.o],u.o⟩,by simp[intOf];omega⟩
   have O:t.Z.take j=t.Z:=Ra (by omega);rw[O];clear O;go_wp2;go_ret2;exact⟨tK (by rw[p.o]) (by rw[p.o]),xB J.o d.o⟩
theorem AM{w e:jA}{x y:Array Value}{b d:TypeId}(f:Below ((w.alloc (aB x b)).alloc (aB y d)).1.size ((w.alloc (aB x b)).alloc (aB y d)) e):
 rB e w.1.size x b/\rB e (w.1.size+1) y d/\zB w e:=by
 refine⟨?_,?_,xB (xB aC aC) f⟩;exact (rB.z (rB.z (g:=w.1.size) (heap_alloc_new w (aB x b)) jD) aC).z f;have h:=rB.z (g:=(w.alloc (aB x b)).1.size) (heap_alloc_new (w.alloc (aB x b)) (aB y d)) f;simpa using h
def yg(w:jA)(b:Nat)(a:nC)(n cap:Nat)(c k cr fl:Int)(dn:Bool):Prop:=rB w b #[uA a n cap,dB c,dB k,dB cr,dB fl,vA dn] 35
structure RR(w:World)(a:nC)(fs:List nB)(c:Int)(op:yK):Prop where
 files:wB w a fs
 asc:mT fs
 len:cB fs≤1000
 sum:(tC fs:Int)≤c
 cap:c≤1000000000
 data:op.data.size≤200000000
def QM(w:jA)(a:nC)(cap:Nat)(fs:List nB)(c k cr fl:Int)(dn:Bool)(op:yK):Prop:=
 Calls prog 130 #[yA #[uA a (cB fs) cap,dB c,dB k,dB cr,dB fl,vA dn],yA #[dB op.K,tA op.N,tA op.tq,tA op.data,dB op.size]] w λe f=>
  ∃d b,e=zA (.tuple #[.slice d (cB (iN fs c op).2) b,dB (iN fs c op).1])/\wB f d (iN fs c op).2/\zB w f
section
variable {w:jA} {a:nC} {cap:Nat} {fs:List nB} {c k cr fl:Int} {dn:Bool} {op:yK}
theorem AG{d:Int}{t:vB}{x:Int}(h:lE t fs 0=x)(w:jA)(f:wB w a fs)(b:cB fs<=maxLen):
 gF 56 #[yA #[uA a (cB fs) cap,dB c,dB d,dB cr,dB fl,vA dn],tA t] w (dB x):=h ▸ tW a cap fs c d cr fl dn t w f b
theorem ZR(f:nB)(j:wB w a fs)(l:cB fs<=1048576):Calls prog 201 #[uA a (cB fs) cap,yA #[tA f.N,tA f.data,dB f.Y]] w λe g=>∃d b,e=zA (.slice d (cB (tG fs f)) b)/\wB g d (tG fs f)/\zB w g:=
 (lr a cap fs f w j l).mono λe g ⟨v,i,n,h⟩=>by obtain⟨d,b,rfl,m⟩:=pH n;exact⟨d,b,i,m.files,h⟩
theorem aHe{x:Nat×List nB}{f:nB}(_:x=(0,tG fs f))(h:wB w a fs)(i:cB fs<=1048576):Calls prog 201 #[uA a (cB fs) cap,yA #[tA f.N,tA f.data,dB f.Y]] w λe g=>∃d b,e=zA (.slice d (cB (tG fs f)) b)/\wB g d (tG fs f)/\zB w g:=ZR f h i
theorem VL(t:vB)(i:wB w a fs)(j:cB fs<=1048576):Calls prog 202 #[uA a (cB fs) cap,tA t] w λe f=>∃d b,e=zA (.slice d (cB (yC fs t)) b)/\wB f d (yC fs t)/\zB w f:=
 (BA a cap fs t w i j).mono λe f ⟨v,h,m,g⟩=>by obtain⟨d,b,rfl,l⟩:=pH m;exact⟨d,b,h,l.files,g⟩
theorem WT(d:mT fs)(f:op.K≠1)(g:tH fs op.N (gC op.N fs)=iA):∃(e:gC op.N fs<cB fs)(b:nB),fs[gC op.N fs]=b/\lE op.N fs 0=(gC op.N fs:Int)/\
 iN fs c op=if op.K=2 then(if c<tC fs+op.data.size then(3,fs) else(0,tG fs ⟨b.N,b.data++op.data,b.Y⟩)) else if op.K=3 then(0,tG fs ⟨b.N,b.data,b.data.size⟩)
  else if op.K=4 then(if dC op.size 0 b.data.size=iA then(0,tG fs ⟨b.N,b.data.extract 0 op.size.toNat,op.size⟩) else(6,fs)) else if op.K=5 then(0,tG (yC fs op.N) ⟨op.tq,b.data,b.Y⟩) else(0,yC fs op.N):=by grind [mT,tH,gC,lE,iN,tC,tG,dC,yC,AA,FW,EA,bJ,SU,gQ]
end
theorem aLe(w:jA)(a:nC)(cap:Nat)(fs:List nB)(c k cr fl:Int)(dn:Bool)(op:yK)(h:RR w a fs c op)(B:op.K=1\/op.K≠1/\tH fs op.N (gC op.N fs)=gA):QM w a cap fs c k cr fl dn op:=by
 unfold QM;have d:∃x,lE op.N fs 0=x/\(op.K=1/\(x=(gC op.N fs:Int)/\iN fs c op=(5,fs)\/x = -1/\((cB fs:Int)=1000/\iN fs c op=(3,fs)\/¬(cB fs:Int)=1000/\iN fs c op=(0,tG fs ⟨op.N,pA,0⟩)))\/(op.K==1)=gA/\x = -1/\iN fs c op=(4,fs)):=by
  refine⟨_,EA h.asc (bJ op.N h.asc),?_⟩;obtain g|⟨g,i⟩:=B
  .cases i:tH fs op.N (gC op.N fs)
   .refine Ca ⟨g,La ⟨by simp,?_⟩⟩;have:=h.len;by_cases v:cB fs=1000
    .exact Ca ⟨by omega,by simp[iN,g,i,v]⟩
    refine La ⟨by omega,?_⟩;rw[vV (f:=⟨op.N,pA,0⟩) h.asc i];simp only[iN,Ma g,i,Bd,Cf];rw[Ja (by omega)]
   exact Ca ⟨g,Ca ⟨by simp,by simp[iN,g,i]⟩⟩
  exact La ⟨by simpa using g,by simp[i],JB g i⟩
 obtain⟨x,r,d⟩:=d;have A:=gB h.files;have m:=gB r;have D:=h.len;have y:cB fs<=maxLen:=by simp[maxLen];omega
 obtain⟨I,G,M,F,L⟩:=op;clear h B r;dsimp only at d m |-
 obtain⟨rfl,⟨rfl,j⟩|⟨rfl,⟨v,j⟩|⟨v,j⟩⟩⟩|⟨g,rfl,j⟩:=d
 all_goals
  have j:=gB j;go_enter func130,ntmps130;go_wp2_with fail;apply oC (AG m.o _ ((A.o.z aC).z aC) y);intro N o;obtain⟨q,s,b⟩:=AM o;have z:=gB b;have l:=gB (A.o.z b);obtain⟨J,K,-⟩:=s.c5;obtain⟨H,-⟩:=q.c6;clear o q s b;go_wp2_with(go_at_call 201;refine(ZR ⟨G,pA,0⟩ l.o (by omega)).mono ?_;rintro e O ⟨E,n,rfl,C,p⟩;have u:=gB C;have t:=gB (xB z.o p);clear C p);go_ret2;rw[j.o];first
   |exact⟨a,cap,rfl,l.o,z.o⟩
   |exact⟨E,n,rfl,u.o,t.o⟩
theorem aAd(w:jA)(a:nC)(cap:Nat)(fs:List nB)(c k cr fl:Int)(dn:Bool)(op:yK)(h:RR w a fs c op)(f:op.K=3\/op.K=4\/op.K=6)(N:tH fs op.N (gC op.N fs)=iA):QM w a cap fs c k cr fl dn op:=by
 unfold QM;obtain⟨L,d,A,z,p⟩:=WT (c:=c) h.asc (by omega) N;have x:op.K=3/\iN fs c op=(0,tG fs ⟨d.N,d.data,d.data.size⟩)\/op.K=4/\(dC op.size 0 d.data.size=gA/\iN fs c op=(6,fs)\/dC op.size 0 d.data.size=iA/\(0<=op.size/\op.size<=d.data.size)/\iN fs c op=(0,tG fs ⟨d.N,d.data.extract 0 op.size.toNat,op.size⟩))\/op.K=6/\iN fs c op=(0,yC fs op.N):=by
  obtain f|f|f:=f;exact Ca ⟨f,by rw[p];simp[f]⟩
  .refine La (Ca ⟨f,?_⟩);cases B:dC op.size 0 d.data.size
   .exact Ca ⟨rfl,by rw[p];simp[f,B]⟩
   exact La ⟨rfl,by simpa[dC]using B,by rw[p];simp[f,B]⟩
  exact La (La ⟨f,by rw[p];simp[f]⟩)
 have I:=gB h.files;have s:=gB z;have M:=h.len;have H:cB fs<=maxLen:=by simp[maxLen];omega
 have t:=gB A;obtain⟨m,V,m,R,m⟩:=op;clear h f z N p A;dsimp only at x s t L |-
 obtain⟨rfl,m⟩|⟨rfl,⟨B,m⟩|⟨B,⟨T,U⟩,m⟩⟩|⟨rfl,m⟩:=x
 all_goals
  have m:=gB m;go_enter func130,ntmps130;go_wp2_with fail;apply oC (AG s.o _ ((I.o.z aC).z aC) H);intro C v;obtain⟨y,n,i⟩:=AM v;have D:=gB i;have j:=gB (I.o.z i);obtain⟨h,h,h,h,h⟩:=n.c5;obtain⟨Y,-⟩:=y.c6;obtain⟨b,o,rfl,Z,O,P,Q⟩:=j.o.at L;rw[t.o]at O P Q;have S:=eB n;have K:w.1.size<C.1.size:=by omega
  try have F:=gB (λW(G:zB C W)=>aHe (cap:=cap) m.o (j.o.z G) (by omega))
  have E:=gB (λW(G:zB C W)=>VL (cap:=cap) V (j.o.z G) (by omega));clear v y n i;go_wp2_with(first
   |(go_at_call 103;refine oC (gE (by assumption) _) ?_;rintro h rfl)
   |(go_at_call 201;refine(F.o _ aC).mono ?_;rintro e X ⟨J,l,rfl,u,g⟩;have r:=gB u;have q:=gB (xB D.o (xB aC g));clear u g)
   |(go_at_call 202;refine(E.o _ aC).mono ?_;rintro e X ⟨J,l,rfl,u,g⟩;have r:=gB u;have q:=gB (xB D.o (xB aC g));clear u g))
  go_ret2;rw[m.o];first
   |exact⟨J,l,rfl,r.o,q.o⟩
   |exact⟨_,cap,rfl,j.o.z aC,xB D.o aC⟩
theorem td(w:jA)(a:nC)(z:Nat)(f:List nB)(c k cr fl:Int)(dn:Bool)(s:yK)(h:RR w a f c s)(hk:s.K=2)(hq:tH f s.N (gC s.N f)=iA):QM w a z f c k cr fl dn s:=by
 unfold QM;obtain⟨hi,d,q,E,G⟩:=WT (c:=c) h.asc (by omega) hq;rw[Ma hk]at G;have S:=gB h.files;have M:=gB E;obtain⟨-,-,hlen,hsum,a0,b0⟩:=h;have F:cB f<=maxLen:=by simp[maxLen];omega
 have R:tC f<=1000000000:=by omega
 have hdz:d.data.size<=1000000000:=by
  have h1:=jI f _ hi;have h2:=wH f (gC s.N f+1);rw[q]at h1;omega
 have N:=gB q;obtain⟨kd,nm,tq,g,sz⟩:=s;dsimp only at *;subst hk;have P:c<(tC f:Int)+(g.size:Int)/\iN f c ⟨2,nm,tq,g,sz⟩=(3,f)\/¬c<(tC f:Int)+(g.size:Int)/\iN f c ⟨2,nm,tq,g,sz⟩=(0,tG f ⟨d.N,d.data++g,d.Y⟩):=by
  by_cases h:c<(tC f:Int)+(g.size:Int)
  .exact Ca ⟨h,by rw[G,Ma h]⟩
  exact La ⟨h,by rw[G,Ja h]⟩
 clear E hq G q;go_enter func130,ntmps130;go_wp2_with fail;apply oC (AG M.o _ ((S.o.z aC).z aC) F);intro m B;obtain⟨n,l,i⟩:=AM B;have K:=gB n;have O:=gB l;have I:=gB i;have u:=gB (S.o.z i);obtain⟨o0,o1,o2,o3,o4⟩:=l.c5;obtain⟨Y,-⟩:=n.c6;obtain⟨b,o,rfl,hb,U,V,X⟩:=u.o.at hi;rw[N.o]at U V X;have hdl:=eB l;clear B n l i;go_wp2_with fail;have j:zB m (m.alloc (aB #[tA d.N,tA d.data,.int .i64 d.Y] 115)):=aC;have D:rB (m.alloc (aB #[tA d.N,tA d.data,.int .i64 d.Y] 115)) m.1.size #[tA d.N,tA d.data,.int .i64 d.Y] 115:=heap_alloc_new _ _;generalize m.alloc (aB #[tA d.N,tA d.data,.int .i64 d.Y] 115)=T at *;have v:=gB (λx:mC T=>(⟨(u.o.z j).z x.h,rB.z (rB.z K.o j) x.h,rB.z (rB.z O.o j) x.h,D.z x.h,xB (xB I.o j) x.h⟩:wB x.w' _ f/\rB x.w' _ _ _/\rB x.w' _ _ _/\rB x.w' _ _ _/\zB w x.w'));have p:=λx=>(v.o x).2.1.c6;have po:=λx=>(v.o x).2.2.1.c5.2.2.2.1;simp only[forall_and]at p;obtain⟨p0,p1,p2,p3,p4,p5⟩:=p;have Q:=mC.there T;clear D j U V X o0 o1 o2 o3 o4 Y;obtain⟨r,H⟩|⟨r,H⟩:=P
 all_goals
  have H:=gB H;refine bC (by kernel_rfl) (by kernel_rfl) ?_;repeat (go_big_quiet_step (first|(go_at_call 128;exact rC (yY _ _ _ _ _ _ _ _ _ (v.o _).1 F R))))
  refine wpQuiet_nil ?_;rintro _ ⟨y,rfl⟩;have t:=gB (v.o y);have Y:=p0 y;have o3:=po y;clear p0 p1 p2 p3 p4 p5 po Q v;generalize y.w'=W at *;clear y;obtain⟨q0,q1,q2⟩:=t.o.2.2.2.1.c3;have r1:=t.o.2.2.2.1.free;go_wp2_with(go_at_call 201;refine(ZR ⟨d.N,d.data++g,d.Y⟩ (t.o.1.setCell (by show m.1.size≠b;omega) _) (by omega)).mono ?_;rintro e w5 ⟨a5,A,rfl,Z,C⟩;have L:=gB Z;have J:=gB (xB (t.o.2.2.2.2.setCell (by show w.1.size<=m.1.size;omega) _) C);clear Z C);go_ret2;rw[H.o];first
   |exact⟨a5,A,rfl,L.o,J.o⟩
   |exact⟨_,z,rfl,t.o.1,t.o.2.2.2.2⟩
theorem tf(w:jA)(a:nC)(m:Nat)(g:List nB)(c k cr fl:Int)(dn:Bool)(s:yK)(h:RR w a g c s)(o:s.K=5)(Y:tH g s.N (gC s.N g)=iA):QM w a m g c k cr fl dn s:=by
 unfold QM;obtain⟨I,d,B,A,O⟩:=WT (c:=c) h.asc (by omega) Y;have P:=gB h.files;have G:=gB A;have X:=h.len;have N:cB g<=maxLen:=by simp[maxLen];omega
 have H:=gB B;obtain⟨J,r,q,L,J⟩:=s;dsimp only at *;subst o;have Z:fB (iN g c ⟨5,r,q,L,J⟩=(0,tG (yC g r) ⟨q,d.data,d.Y⟩)):=by show _=_;rw[O];simp
 clear h A Y O B;go_enter func130,ntmps130;go_wp2_with fail;apply oC (AG G.o _ ((P.o.z aC).z aC) N);intro l x;obtain⟨n,j,f⟩:=AM x;have D:=gB n;have J:=gB j;have C:=gB f;have u:=gB (P.o.z f);obtain⟨h,G,O,U,Y⟩:=j.c5;obtain⟨d0,-⟩:=n.c6;obtain⟨b,o,rfl,o,Q,R,S⟩:=u.o.at I;rw[H.o]at Q R S;have o:=eB j;have z:cB (yC g r)<=1048576:=by have:=lT g r;omega
 have K:=gB (λW(o:zB l W)=>VL (cap:=m) r (u.o.z o) (by omega));clear x n j f;generalize yC g r=m at *;go_wp2_with fail;have i:zB l (l.alloc (aB #[tA q,tA d.data,dB d.Y] 115)):=aC;have p:rB (l.alloc (aB #[tA q,tA d.data,dB d.Y] 115)) l.1.size #[tA q,tA d.data,dB d.Y] 115:=heap_alloc_new _ _;generalize l.alloc (aB #[tA q,tA d.data,dB d.Y] 115)=m at *;have t:=gB i;have I:=gB p;obtain⟨m,-⟩:=(rB.z D.o i).c6;obtain⟨-,m,-⟩:=(rB.z J.o i).c5;obtain⟨m,m,m⟩:=p.c3;clear p i Q R S h G O U Y d0;go_region_with (first
  |(go_at_call 202;refine(K.o _ (xB t.o jD.drew)).mono ?_;rintro e h ⟨h,T,rfl,U,y⟩;have E:=gB U;obtain⟨h,h,h⟩:=(I.o.z (xB jD.drew y)).c3)
  |(go_at_call 201;refine(ZR ⟨q,d.data,d.Y⟩ E.o z).mono ?_;rintro e h ⟨h,v,rfl,V,M⟩;have F:=gB V))
 all_goals
  clear V U;go_wp2;go_ret2;rw[Z.o];exact⟨h,v,rfl,F.o,xB (xB C.o t.o) (xB (xB jD.drew y) M)⟩
theorem aBg(w:jA)(a:nC)(b:Nat)(e:List nB)(c k f i:Int)(g:Bool)(d:yK)(h:RR w a e c d)(j:dC d.K 1 6=iA):QM w a b e c k f i g d:=by grind [dC,QM,tH,gC,aLe,td,tf,aAd]
