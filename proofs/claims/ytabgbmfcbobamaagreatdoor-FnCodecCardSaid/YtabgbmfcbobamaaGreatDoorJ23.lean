import Derived.Test.YtabgbmfcbobamaaGreatDoorJ20
set_option maxRecDepth 100000
set_option maxHeartbeats 8000000
namespace Go.Proofs.YtabgbmfcbobamaaGreatDoor
open Go.RowKit Tryz
def rf (a:List lA):Prop:=∀i (h:i<a.length),a[i].s.size<=1000000000
def yz (a:List dA):Prop:=∀i (h:i<a.length),a[i].name.size<=maxLen/\rf a[i].m9/\rf a[i].s9/\a[i].m9.length<=1000000000/\a[i].s9.length<=1000000000
structure PS (w W:World) (c:vB) (now:Int) (a:Option Addr) (n cap:Nat):Prop where
 C:eA W w.heap.size #[.int .i64 c.w,.int .i64 c.tl,.int .i64 c.ml,.int .i64 c.sh,.int .i64 c.ha,.int .i64 c.sg] 33
 S:eA W (w.heap.size+1) #[.int .i64 now,.slice a n cap] 51
 B:Below w.heap.size w W
theorem PS.later {w W f:World} {c:vB} {d:Int} {a:Option Addr} {n b:Nat} (h:PS w W c d a n b) (e:Below W.heap.size W f):PS w f c d a n b:=⟨h.C.later e,h.S.later e,nA h.B e⟩
theorem eE (c:vB) (t:Int) (a:Option Addr) (cap:Nat) (v:List dA) (w:World) (hf:oB w a v) (hb:yz v) (hlen:v.length<=1000000000):
 Calls prog 78 #[iD c,.agg #[.int .i64 t,.slice a v.length cap]] w fun e w'=>e=.returned (.bool (gB c t v))/\Below w.heap.size w w':=by
 have HC:=bA (fun W=>kH c W);have HSB:Hid (gB c t v=(jE c&&xA t 0 1000000000000&&decide (v.length<=10000) &&yL c.w t v)):=rfl;have HF:=bA hf;have HB:=bA hb;clear hf hb;unfold iD at *;have hcs:(jE c=false\/jE c=true/\(xA t 0 1000000000000=false\/xA t 0 1000000000000=true/\(10000:Int)<v.length))/\gB c t v=false\/jE c=true/\xA t 0 1000000000000=true/\¬(10000:Int)<v.length/\gB c t v=yL c.w t v:=by
  rw[HSB.out];cases jE c<;>cases xA t 0 1000000000000<;>simp
  by_cases h:(10000:Int)<v.length
  ·exact Ca ⟨h,fun h'=>by omega⟩
  ·exact Ja ⟨by omega,fun _=>by omega⟩
 clear HSB;have HP:=fun {W:World} (hb:Below _ (World.alloc (World.alloc w (.cells #[.int .i64 c.w,.int .i64 c.tl,.int .i64 c.ml,.int .i64 c.sh,.int .i64 c.ha,.int .i64 c.sg] 33)) (.cells #[.int .i64 t,.slice a v.length cap] 51)) W)=>bA (show PS w W c t a v.length cap from⟨((eA.new _ _ _).alloc _).later hb,by have:=(eA.new (w.alloc (.cells #[.int .i64 c.w,.int .i64 c.tl,.int .i64 c.ml,.int .i64 c.sh,.int .i64 c.ha,.int .i64 c.sg] 33)) #[.int .i64 t,.slice a v.length cap] 51).later hb;simpa using this,nA (nA (cA _ _) (cA _ _)) hb⟩);rcases hcs with⟨g0|⟨g0,g1|⟨g1,g2⟩⟩,E⟩|⟨g0,g1,g2,E⟩
 rotate_left 3;rotate_left 1;iterate 3
  ·have E:=bA E
   rw[g0]at HC
   go_enter func78,ntmps78
   go_wp2_with(first
    |(go_at_call 67;refine(HC.out _).mono ?_;rintro e w1 ⟨rfl,a0⟩;have P1:=HP a0;clear a0 HP;obtain⟨s0,s1⟩:=P1.out.S.c2)
    |(go_at_call 25;refine(nC (by assumption) _).mono ?_;rintro e w' ⟨rfl,rfl⟩))
   go_ret
   exact⟨jA (by rw[E.out]),P1.out.B⟩
 have HSB2:=bA E;obtain⟨hn0,hn1⟩:=dK g1;rw[g0]at HC;clear E;go_enter func78,ntmps78;go_wp2_with(first
  |(go_at_call 67;refine(HC.out _).mono ?_;rintro e w1 ⟨rfl,a0⟩;have P1:=HP a0;clear a0 HP;obtain⟨s0,s1⟩:=P1.out.S.c2)
  |(go_at_call 25;refine(nC g1 _).mono ?_;rintro e w' ⟨rfl,rfl⟩))
 clear s0 s1;go_loopw [5,6,7,8,9,10,29] (fun _ _ _ _ _ _ i wr=>∃k:Nat,k<=v.length/\i=.int .i64 k/\iH (xL c.w t v) k=true/\Below w'.heap.size w' wr) (fun _ _ _ _ _ _ i _=>v.length-(intOf i).toNat)
 case atStart=>exact⟨0,La _,rfl,rfl,Below.refl _ _⟩
 case round=>
  obtain⟨k,hk,rfl,hok,j0⟩:=hrel;have HOK:=bA hok;have HBEL:=bA j0;have PW:=bA (P1.out.later j0);clear hok j0 P1;by_cases k0:k<v.length
  ·obtain⟨b,o,a1,q1,a2,q2,rfl,hbl,m,p,q,r,p1,p2⟩:=(HF.out.later PW.out.B).at k0;obtain⟨n1,n2,n3,n4,n5⟩:=HB.out k k0;have F:Hid (xL c.w t v k=false->gB c t v=false):=fun h=>by rw[HSB2.out];exact kM h k0
   have I:Hid (xL c.w t v k=(lK v k&&eO c.w t v[k])):=eT k0;have HPRE:Hid (0<k->∃u:ByteArray,lK v k=wH u v[k].name/\wr.cell? ⟨b,o+(k-1)*4,none⟩=some (.string u)):=fun z=>by
    refine⟨_,qS z k0,?_⟩;obtain⟨b',o',_,_,_,_,e,_,u0,_⟩:=(HF.out.later PW.out.B).at (i:=k-1) (by omega)
    simp only[Pa,Addr.mk.injEq,Yb]at e;rw[e.1,e.2];exact u0
   have N:Hid (k=0->lK v k=true):=fun z=>by subst z;rfl
   generalize v[k]=T at *;have Z:=bA (fun W=>bE T.name W n1);have X:=bA (fun W=>pZ T a1 a2 q1 q2 W);have O:Hid (eO c.w t T=(yB T.name&&xA T.l9 (-1) 1000000&&kK T.m9&&uJ c.w t T.s9&&!iE T)):=rfl;have hc2:(yB T.name=false\/yB T.name=true/\(xA T.l9 (-1) 1000000=false\/xA T.l9 (-1) 1000000=true/\iE T=true))/\eO c.w t T=false\/yB T.name=true/\xA T.l9 (-1) 1000000=true/\iE T=false/\eO c.w t T=(kK T.m9&&uJ c.w t T.s9):=by
    rw[O.out];cases yB T.name<;>cases xA T.l9 (-1) 1000000<;>cases iE T<;>simp
   clear O;rcases hc2 with⟨e1|⟨e1,e2|⟨e2,e3⟩⟩,E⟩|⟨e1,e2,e3,E⟩
   rotate_left 3;rotate_left 1;iterate 3
    ·have E:=bA E
     rw[e1]at Z
     try rw[e3]at X
     go_wp2_with(first
      |(go_at_call 81;refine(Z.out _).mono ?_;rintro e w2 ⟨rfl,hw⟩;replace hw:=hw.symm;subst hw)
      |(go_at_call 25;refine(nC (by assumption) _).mono ?_;rintro e w2 ⟨rfl,hw⟩;replace hw:=hw.symm;subst hw)
      |(go_at_call 119;refine(X.out _).mono ?_;rintro e w3 ⟨rfl,b0⟩))
     go_ret
     exact⟨jA (F.out (by rw[I.out,E.out];simp)).symm,by first|exact nA PW.out.B (nA (cA _ _) b0)|exact nA PW.out.B (cA _ _)⟩
   have O:=bA E;rw[e1]at Z;rw[e3]at X;clear E;go_upto_region 8 with(first
    |(go_at_call 81;refine(Z.out _).mono ?_;rintro e w2 ⟨rfl,hw⟩;replace hw:=hw.symm;subst hw)
    |(go_at_call 25;refine(nC e2 _).mono ?_;rintro e w2 ⟨rfl,hw⟩;replace hw:=hw.symm;subst hw)
    |(go_at_call 119;refine(X.out _).mono ?_;rintro e w3 ⟨rfl,b0⟩))
   have T3:=bA ((eA.new wr #[.string T.name,.int .i64 T.l9,.slice a1 T.m9.length q1,.slice a2 T.s9.length q2] 100).later b0);have R:=nA (cA _ _) b0;have P3:=bA (PW.out.later R);have B3:=bA (nA HBEL.out R);have Q3:=bA (Ud (p1.later R) (p2.later R));have Y:Hid (0<k->∃u:ByteArray,lK v k=wH u T.name/\w3.cell? ⟨b,o+(k-1)*4,none⟩=some (.string u)):=fun z=>by
    obtain⟨u,e1,e2⟩:=HPRE.out z;exact⟨u,e1,(R.cell hbl).trans e2⟩
   clear b0 R HPRE p1 p2 m p q r PW HBEL X Z;generalize wr.heap.size=tb at *;clear wr;go_cut [61] (fun s wx=>s=.bool (!(lK v k))/\Below w3.heap.size w3 wx)
   case first=>
    obtain⟨-,x0⟩:=P3.out.S.c2;obtain⟨x1,-⟩:=T3.out.c4;have hv:(∃u,((0:Int)<k/\0<k)/\w3.cell? ⟨b,o+(k-1)*4,none⟩=some (.string u)/\lK v k=wH u T.name)\/decide ((0:Int)<k)=false/\decide (0<k)=false/\lK v k=true:=by
     by_cases z:0<k
     ·obtain⟨u,hp,U⟩:=Y.out z;exact Ca ⟨u,⟨by omega,z⟩,U,hp⟩
     ·exact Ja ⟨by simp;omega,by simp;omega,N.out (by omega)⟩
    rcases hv with⟨u,⟨z,h0'⟩,U,HP⟩|⟨hd,hd',HP⟩
    all_goals
     have HP:=bA HP;go_quiet (fail)
     go_wp2_with fail;go_meet;exact⟨by rw[HP.out];rfl,below_drewN (Below.refl _ _) _⟩
   obtain⟨rfl,Q⟩:=hcut;rename World=>w4;have T4:=bA (T3.out.later Q);have PW:=bA (P3.out.later Q);have B4:=bA (nA B3.out Q);have P14:=bA (Q3.out.1.later Q);have P24:=bA (Q3.out.2.later Q);clear Q T3 P3 B3 Q3 Y N;cases e4:lK v k
   ·rw[e4]at I;go_wp2;go_ret;exact⟨jA (F.out (by rw[I.out];simp)).symm,PW.out.B⟩
   rw[e4]at I;obtain⟨-,-,y2,-⟩:=T4.out.c4;go_wp2;clear y2;go_loopw [7,8,65] (fun _ _ j wr=>∃i:Nat,i<=T.m9.length/\j=.int .i64 i/\iH (kJ T.m9) i=true/\Below w4.heap.size w4 wr) (fun _ _ j _=>T.m9.length-(intOf j).toNat)
   case atStart=>exact⟨0,La _,rfl,rfl,Below.refl _ _⟩
   case round=>
    obtain⟨i,hi,rfl,l0,e0⟩:=hrel;have M:=bA l0;have y:=bA e0;clear l0 e0;by_cases A:i<T.m9.length
    ·obtain⟨pb,po,rfl,m0,c0,c1⟩:=(P14.out.later y.out).at A;have HMF:Hid _:=fun h=>F.out (by rw[I.out,O.out];have:kK T.m9=false:=kM h A;rw[this];simp);have HMA:Hid _:=bW A;have hsz:=n2 i A;have G:Hid (0<i->∃u:ByteArray,sI T.m9 i=wH u T.m9[i].s/\wr.cell? ⟨pb,po+(i-1)*2,none⟩=some (.string u)):=fun z=>by
      refine⟨_,eQ z A,?_⟩;obtain⟨b',o',e,_,u0,_⟩:=(P14.out.later y.out).at (i:=i-1) (by omega)
      simp only[Pa,Addr.mk.injEq,Yb]at e;rw[e.1,e.2];exact u0
     have N:Hid (i=0->sI T.m9 i=true):=fun z=>by subst z;rfl
     generalize T.m9[i]=P at *;have K:=bA (fun W=>aJ P.s W hsz);have H:=bA (cA wr (.cells #[.string P.s,.int .i64 P.n] 107));have MB:=bA (eA.new wr #[.string P.s,.int .i64 P.n] 107);go_upto_region 13 with fail;generalize wr.alloc (.cells #[.string P.s,.int .i64 P.n] 107)=W at *;have D:=bA (nA y.out H.out);have TB:=bA (T4.out.later D.out);have PB:=bA (PW.out.later D.out);replace G:Hid (0<i->∃u:ByteArray,sI T.m9 i=wH u P.s/\W.cell? ⟨pb,po+(i-1)*2,none⟩=some (.string u)):=fun z=>by
      obtain⟨u,e1,e2⟩:=G.out z;exact⟨u,e1,(H.out.cell m0).trans e2⟩
     generalize wr.heap.size=mb at *;clear c0 c1 m0 y H wr;go_cut [95] (fun s wx=>s=.bool (!(kJ T.m9 i))/\Below W.heap.size W wx)
     case first=>
      have d:=fun x:fB W=>(⟨(MB.out.later x.h).c2,(TB.out.later x.h).c4,(PB.out.later x.h).S.c2,(PB.out.later x.h).C.c6⟩:_/\_/\_/\_)
      simp only[forall_and]at d;obtain⟨⟨d0,d1⟩,⟨-,-,d2,d3⟩,⟨d4,-⟩,⟨d5,-⟩⟩:=d;have hnel:=fB.there W;have hv:cE P.s=false/\kJ T.m9 i=false\/cE P.s=true/\(xA P.n 0 1000000=false/\kJ T.m9 i=false\/xA P.n 0 1000000=true/\((∃u,((0:Int)<i/\0<i)/\W.cell? ⟨pb,po+(i-1)*2,none⟩=some (.string u)/\kJ T.m9 i=wH u P.s)\/decide ((0:Int)<i)=false/\decide (0<i)=false/\kJ T.m9 i=true)):=by
       rw[HMA.out];cases cE P.s
       ·exact Ca ⟨rfl,by simp⟩
       refine Ja ⟨rfl,?_⟩;cases xA P.n 0 1000000
       ·exact Ca ⟨rfl,by simp⟩
       refine Ja ⟨rfl,?_⟩;by_cases z:0<i
       ·obtain⟨u,hp,U⟩:=G.out z;exact Ca ⟨u,⟨by omega,z⟩,U,by rw[hp];simp⟩
       ·exact Ja ⟨by simp;omega,by simp;omega,by rw[N.out (by omega)];rfl⟩
      rcases hv with⟨f,L⟩|⟨f,⟨l,L⟩|⟨l,⟨u,⟨z,h0'⟩,U,L⟩|⟨hd,hd',L⟩⟩⟩
      all_goals
       have L:=bA L;rw[f]at K;try have d6:=fB.cells U
       try clear U
       refine eB (by kernel_rfl) (by kernel_rfl) ?_;repeat (go_big_quiet_step (first|(go_at_call 120;exact pB (K.out _))|(go_at_call 25;exact lD (nC (by assumption) _))))
       refine wpQuiet_nil ?_;rintro _ ⟨x,rfl⟩;go_wp2_with fail;go_meet;exact⟨by rw[L.out];rfl,x.h⟩
     obtain⟨rfl,i0⟩:=hcut;rename World=>w7;have V:=bA (nA D.out i0);clear i0 D MB TB PB G K;cases f4:kJ T.m9 i
     ·have J:=bA f4;go_wp2;go_ret;exact⟨jA (HMF.out J.out).symm,nA PW.out.B V.out⟩
     ·have J:Hid (iH (kJ T.m9) (i+1)=true):=by show _=_;rw[lI,M.out,f4];rfl
      go_wp2;exact⟨⟨i+1,by omega,by go_num,J.out,V.out⟩,by simp[intOf];omega⟩
    ·have ei:i=T.m9.length:=by omega
     have HMB:Hid (kK T.m9=true):=by have:=M.out;rw[ei]at this;exact this
     clear ei;replace T4:=bA (T4.out.later y.out);replace PW:=bA (PW.out.later y.out);replace B4:=bA (nA B4.out y.out);have P25:=bA (P24.out.later y.out);obtain⟨-,-,-,y3⟩:=T4.out.c4;clear P14 P24 y M;go_wp2;clear y3;generalize hwo:wr=wo at *;clear hwo;go_loopw [9,10,100] (fun _ _ j wr=>∃i:Nat,i<=T.s9.length/\j=.int .i64 i/\iH (uG c.w t T.s9) i=true/\Below wo.heap.size wo wr) (fun _ _ j _=>T.s9.length-(intOf j).toNat)
     case atStart=>exact⟨0,La _,rfl,rfl,Below.refl _ _⟩
     case round=>
      obtain⟨i,hi,rfl,l0,e0⟩:=hrel;have M:=bA l0;have y:=bA e0;clear l0 e0;by_cases A:i<T.s9.length
      ·obtain⟨pb,po,rfl,m0,c0,c1⟩:=(P25.out.later y.out).at A;have HMF:Hid _:=fun h=>F.out (by rw[I.out,O.out];have:uJ c.w t T.s9=false:=kM h A;rw[this];simp);have HMA:Hid (uG c.w t T.s9 i=(sI T.s9 i&&eI T.s9[i].s&&xA T.s9[i].n 0 t&&decide (t-T.s9[i].n<c.w))):=vS A;have hsz:=n3 i A;have G:Hid (0<i->∃u:ByteArray,sI T.s9 i=wH u T.s9[i].s/\wr.cell? ⟨pb,po+(i-1)*2,none⟩=some (.string u)):=fun z=>by
        refine⟨_,eQ z A,?_⟩;obtain⟨b',o',e,_,u0,_⟩:=(P25.out.later y.out).at (i:=i-1) (by omega)
        simp only[Pa,Addr.mk.injEq,Yb]at e;rw[e.1,e.2];exact u0
       have N:Hid (i=0->sI T.s9 i=true):=fun z=>by subst z;rfl
       generalize T.s9[i]=P at *;have K:=bA (fun W=>DU P.s W hsz);have H:=bA (cA wr (.cells #[.string P.s,.int .i64 P.n] 109));have MB:=bA (eA.new wr #[.string P.s,.int .i64 P.n] 109);go_upto_region 19 with fail;generalize wr.alloc (.cells #[.string P.s,.int .i64 P.n] 109)=W at *;have D:=bA (nA y.out H.out);have TB:=bA (T4.out.later D.out);have PB:=bA (PW.out.later D.out);replace G:Hid (0<i->∃u:ByteArray,sI T.s9 i=wH u P.s/\W.cell? ⟨pb,po+(i-1)*2,none⟩=some (.string u)):=fun z=>by
        obtain⟨u,e1,e2⟩:=G.out z;exact⟨u,e1,(H.out.cell m0).trans e2⟩
       generalize wr.heap.size=mb at *;clear c0 c1 m0 y H wr;go_cut [142] (fun s wx=>s=.bool (!(uG c.w t T.s9 i))/\Below W.heap.size W wx)
       case first=>
        have d:=fun x:fB W=>(⟨(MB.out.later x.h).c2,(TB.out.later x.h).c4,(PB.out.later x.h).S.c2,(PB.out.later x.h).C.c6⟩:_/\_/\_/\_)
        simp only[forall_and]at d;obtain⟨⟨d0,d1⟩,⟨-,-,d2,d3⟩,⟨d4,-⟩,⟨d5,-⟩⟩:=d;have hnel:=fB.there W;have hv:eI P.s=false/\uG c.w t T.s9 i=false\/eI P.s=true/\(xA P.n 0 t=false/\uG c.w t T.s9 i=false\/xA P.n 0 t=true/\(0<=P.n/\P.n<=t)/\(c.w<=t-P.n/\uG c.w t T.s9 i=false\/decide (c.w<=t-P.n)=false/\((∃u,((0:Int)<i/\0<i)/\W.cell? ⟨pb,po+(i-1)*2,none⟩=some (.string u)/\uG c.w t T.s9 i=wH u P.s)\/decide ((0:Int)<i)=false/\decide (0<i)=false/\uG c.w t T.s9 i=true))):=by
         rw[HMA.out];cases eI P.s
         ·exact Ca ⟨rfl,by simp⟩
         refine Ja ⟨rfl,?_⟩;cases hb:xA P.n 0 t
         ·exact Ca ⟨rfl,by simp⟩
         refine Ja ⟨rfl,dK hb,?_⟩;by_cases g:c.w<=t-P.n
         ·exact Ca ⟨g,by rw[Bc (show ¬t-P.n<c.w by omega)];simp⟩
         refine Ja ⟨by simpa using g,?_⟩;rw[Zb (show t-P.n<c.w by omega)];by_cases z:0<i
         ·obtain⟨u,hp,U⟩:=G.out z;exact Ca ⟨u,⟨by omega,z⟩,U,by rw[hp];simp⟩
         ·exact Ja ⟨by simp;omega,by simp;omega,by rw[N.out (by omega)];rfl⟩
        rcases hv with⟨f,L⟩|⟨f,⟨l,L⟩|⟨l,⟨r0,r1⟩,⟨g,L⟩|⟨g,⟨u,⟨z,h0'⟩,U,L⟩|⟨hd,hd',L⟩⟩⟩⟩
        all_goals
         have L:=bA L;rw[f]at K;try have d6:=fB.cells U
         try clear U
         refine eB (by kernel_rfl) (by kernel_rfl) ?_;repeat (go_big_quiet_step (first|(go_at_call 121;exact pB (K.out _))|(go_at_call 25;exact lD (nC (by assumption) _))))
         refine wpQuiet_nil ?_;rintro _ ⟨x,rfl⟩;go_wp2_with fail;go_meet;exact⟨by rw[L.out];rfl,x.h⟩
       obtain⟨rfl,i0⟩:=hcut;rename World=>w7;have V:=bA (nA D.out i0);clear i0 D MB TB PB G K;cases f4:uG c.w t T.s9 i
       ·have J:=bA f4;go_wp2;go_ret;exact⟨jA (HMF.out J.out).symm,nA PW.out.B V.out⟩
       ·have J:Hid (iH (uG c.w t T.s9) (i+1)=true):=by show _=_;rw[lI,M.out,f4];rfl
        go_wp2;exact⟨⟨i+1,by omega,by go_num,J.out,V.out⟩,by simp[intOf];omega⟩
      ·have ei:i=T.s9.length:=by omega
       have HSS:Hid (uJ c.w t T.s9=true):=by have:=M.out;rw[ei]at this;exact this
       have HNX:Hid (iH (xL c.w t v) (k+1)=true):=by
        show _=_;rw[lI,HOK.out,I.out,O.out,HMB.out,HSS.out];rfl
       clear ei;go_wp2;exact⟨⟨k+1,by omega,by go_num,HNX.out,nA B4.out y.out⟩,by simp[intOf];omega⟩
  ·have ek:k=v.length:=by omega
   have HEND:Hid (gB c t v=true):=by show _=_;rw[HSB2.out];have:=HOK.out;rw[ek]at this;exact this
   go_wp2;go_ret;exact⟨jA HEND.out.symm,PW.out.B⟩
def zd (w:World) (e:Ending) (t:dA):Prop:=∃a c b d,e=.returned (.agg #[.string t.name,.int .i64 t.l9,.slice a t.m9.length c,.slice b t.s9.length d])/\yA w a t.m9/\yA w b t.s9
theorem yT (q:Int) (a:Option Addr) (p:Nat) (l:List dA) (name:ByteArray) (w:World) (N:oB w a l) (O:l.length<=1000000000):
 Calls prog 89 #[.agg #[.int .i64 q,.slice a l.length p],.string name] w fun e X=>zd X e (tA l name)/\Below w.heap.size w X:=by
 have HF:Hid (oB w a l):=N;have x:Hid (tA l name=(xC (·.name) name l).getD ⟨name,-1,[],[]⟩):=rfl;clear N;go_enter func89,ntmps89;go_wp2;have M:Hid _:=bA (by have:=eA.new (w.alloc (.cells #[.int .i64 q,.slice a l.length p] 51)) #[.string ⟨#[]⟩,.int .i64 0,.slice none 0 0,.slice none 0 0] 100;simpa using this);have L:Hid (Below w.heap.size w ((w.alloc (.cells #[.int .i64 q,.slice a l.length p] 51)).alloc (.cells #[.string ⟨#[]⟩,.int .i64 0,.slice none 0 0,.slice none 0 0] 100))):=nA (cA _ _) (cA _ _);generalize hW:(w.alloc (.cells #[.int .i64 q,.slice a l.length p] 51)).alloc (.cells #[.string ⟨#[]⟩,.int .i64 0,.slice none 0 0,.slice none 0 0] 100)=W at *;clear hW;go_loopw [6,10] (fun _ i wr=>∃k:Nat,k<=l.length/\i=.int .i64 k/\Hid (∀j (h:j<k) (h':j<l.length),l[j].name≠name)/\Below W.heap.size W wr) (fun _ i _=>l.length-(intOf i).toNat)
 case atStart=>exact⟨0,La _,rfl,(fun j h=>absurd h (by omega)),Below.refl _ _⟩
 case round=>
  obtain⟨k,hk,rfl,F,m⟩:=hrel;have E:Hid _:=m;have n:Hid (eA wr (w.heap.size+1) #[.string ⟨#[]⟩,.int .i64 0,.slice none 0 0,.slice none 0 0] 100):=M.out.later m;have hrl:=aA n.out;have R:wr.cell? ⟨w.heap.size+1,0,none⟩=some (.string ⟨#[]⟩):=n.out.cell 0;have S:wr.cell? ⟨w.heap.size+1,1,none⟩=some (.int .i64 0):=n.out.cell 1;have U:wr.cell? ⟨w.heap.size+1,2,none⟩=some (.slice none 0 0):=n.out.cell 2;have V:wr.cell? ⟨w.heap.size+1,3,none⟩=some (.slice none 0 0):=n.out.cell 3;have u0:=n.out.free 0;have u1:=n.out.free 1;have u2:=n.out.free 2;have u3:=n.out.free 3;clear m M;by_cases A:k<l.length
  ·obtain⟨b,o,y,C,z,D,rfl,B,Y,Z,z2,z3,P,Q⟩:=HF.out.at A;have r:Hid _:=nA L.out E.out;have c:=(r.out.cell B).trans Y;have d:=(r.out.cell B).trans Z;have f:=(r.out.cell B).trans z2;have g:=(r.out.cell B).trans z3;clear Y Z z2 z3;have HG:Hid (xC (·.name) name l=if l[k].name=name then some l[k] else xC (·.name) name (l.drop (k+1))):=by
    show _=_;rw[lZ k F.out,Kb A,rT]
   have u:Hid (l[k].name≠name->∀j (h:j<k+1) (h':j<l.length),l[j].name≠name):=fun K j hj J=>by
    by_cases e:j=k
    ·subst e;exact K
    ·exact F.out j (by omega) J
   have P1:Hid (yA w y l[k].m9):=P;have P2:Hid (yA w z l[k].s9):=Q;clear P Q;generalize l[k]=T at *;by_cases t:T.name=name
   ·have I:=(wC _ _).2 t;have H:Hid (tA l name=T):=by show _=_;rw[x.out,HG.out,Qa t];rfl
    clear t;go_wp2;have s:Below w.heap.size w (((((wr.setCell ⟨w.heap.size+1,0,none⟩ (.string T.name)).setCell ⟨w.heap.size+1,1,none⟩ (.int .i64 T.l9)).setCell ⟨w.heap.size+1,2,none⟩ (.slice y T.m9.length C)).setCell ⟨w.heap.size+1,3,none⟩ (.slice z T.s9.length D)).alloc (.cells #[.string T.name,.int .i64 T.l9,.slice y T.m9.length C,.slice z T.s9.length D] 100)):=nA (((((r.out.setCell (by simp) _).setCell (by simp) _).setCell (by simp) _).setCell (by simp) _)) (cA _ _);refine bodyPost_ret (v:=.agg #[.string T.name,.int .i64 T.l9,.slice y T.m9.length C,.slice z T.s9.length D]) (by simp[results,results89,go_sem,R,S,U,V,hrl]) rfl ⟨?_,s⟩;rw[H.out];exact⟨y,C,z,D,rfl,P1.out.later s,P2.out.later s⟩
   ·have I:=dD t;have G:Hid _:=u.out t;clear t;go_wp2;exact⟨⟨k+1,by omega,by go_num,G,nA E.out (cA _ _)⟩,by simp[intOf];omega⟩
  ·have H:Hid (tA l name=⟨name,-1,[],[]⟩):=by
    show _=_;rw[x.out,lZ k F.out,Ac (by omega)];rfl
   have r:Hid _:=nA L.out E.out;go_wp2;refine bodyPost_ret (v:=.agg #[.string name,.int .i64 (-1),.slice none 0 0,.slice none 0 0]) (by simp[results,results89,go_sem,R,S,U,V]) rfl ⟨?_,(((((r.out.setCell (by simp) _).setCell (by simp) _).setCell (by simp) _).setCell (by simp) _))⟩;rw[H.out];exact⟨none,0,none,0,rfl,Ca rfl,Ca rfl⟩
theorem FR (c:vB) (t:dA) (q o:Option Addr) (v r:Nat) (m:ByteArray) (w:World) (G:yA w q t.m9) (H:yA w o t.s9) (C:rf t.s9) (l1:t.m9.length<=1000000000) (l2:t.s9.length<=1000000000):
 Calls prog 130 #[iD c,.agg #[.string t.name,.int .i64 t.l9,.slice q t.m9.length v,.slice o t.s9.length r],.string m] w fun e I=>e=.returned (.tuple #[.int .i64 (qD c t m).1,.int .i64 (qD c t m).2])/\Below w.heap.size w I:=by
 unfold iD;by_cases z:m.toList.isEmpty=true
 ·have p:Hid (qD c t m=(((t.s9.length:Nat):Int),if t.l9<0 then c.tl else t.l9)):=by show _=_;unfold qD;rw[Qa z]
  clear G H C;by_cases R:t.l9<0
  ·go_enter func130,ntmps130;go_wp2;go_ret2;exact⟨bK (by rw[p.out]) (by rw[p.out];exact(Qa R).symm),nA (cA _ _) (cA _ _)⟩
  ·have f:Hid (¬t.l9<0):=R;go_enter func130,ntmps130;go_wp2;go_ret2;exact⟨bK (by rw[p.out]) (by rw[p.out];have h0:=f.out;exact(Oa (by omega)).symm),nA (cA _ _) (cA _ _)⟩
 have Y:m.toList.isEmpty=false:=by simpa using z
 have p:Hid (qD c t m=(((wN vD t.s9 m:Nat):Int),qG t.m9 m c.ml)):=by show _=_;unfold qD;rw[Oa z]
 have U:Hid (yA w q t.m9):=G;have V:Hid (yA w o t.s9):=H;have B:Hid (rf t.s9):=C;clear G H C z;go_enter func130,ntmps130;go_wp2;have M:Hid _:=bA (by have:=eA.new (w.alloc (.cells #[.int .i64 c.w,.int .i64 c.tl,.int .i64 c.ml,.int .i64 c.sh,.int .i64 c.ha,.int .i64 c.sg] 33)) #[.string t.name,.int .i64 t.l9,.slice q t.m9.length v,.slice o t.s9.length r] 100;simpa using this);have A:Hid (Below w.heap.size w ((w.alloc (.cells #[.int .i64 c.w,.int .i64 c.tl,.int .i64 c.ml,.int .i64 c.sh,.int .i64 c.ha,.int .i64 c.sg] 33)).alloc (.cells #[.string t.name,.int .i64 t.l9,.slice q t.m9.length v,.slice o t.s9.length r] 100))):=nA (cA _ _) (cA _ _);generalize (w.alloc (.cells #[.int .i64 c.w,.int .i64 c.tl,.int .i64 c.ml,.int .i64 c.sh,.int .i64 c.ha,.int .i64 c.sg] 33)).alloc (.cells #[.string t.name,.int .i64 t.l9,.slice q t.m9.length v,.slice o t.s9.length r] 100)=W at *;go_loopw [9,11,32] (fun l _ i wr=>∃k:Nat,k<=t.m9.length/\i=.int .i64 k/\l=.int .i64 (qG (t.m9.take k) m c.ml)/\Below W.heap.size W wr) (fun _ _ i _=>t.m9.length-(intOf i).toNat)
 case atStart=>exact⟨0,La _,rfl,rfl,Below.refl _ _⟩
 case round=>
  obtain⟨k,hk,rfl,rfl,a⟩:=hrel;have d:Hid _:=a;clear a;by_cases y:k<t.m9.length
  ·obtain⟨Z,po,rfl,E,z0,z1⟩:=(U.out.later (nA A.out d.out)).at y;have g:Hid (qG (t.m9.take (k+1)) m c.ml=if t.m9[k].s.toList==m.toList then t.m9[k].n else qG (t.m9.take k) m c.ml):=ZL _ _ _ _ y;generalize t.m9[k]=P at *;generalize qG (t.m9.take k) m c.ml=T at *;by_cases h:(P.s.toList==m.toList)=true
   ·have f:Hid (qG (t.m9.take (k+1)) m c.ml=P.n):=by show _=_;rw[g.out,Qa h]
    clear g;go_wp2;exact⟨⟨k+1,by omega,by go_num,by rw[f.out],nA d.out (cA _ _)⟩,by simp[intOf];omega⟩
   ·have D:(P.s.toList==m.toList)=false:=by simpa using h
    have f:Hid (qG (t.m9.take (k+1)) m c.ml=T):=by show _=_;rw[g.out,Oa h]
    clear g h;go_wp2;exact⟨⟨k+1,by omega,by go_num,by rw[f.out],nA d.out (cA _ _)⟩,by simp[intOf];omega⟩
  ·have Q:t.m9.take k=t.m9:=Ua (by omega);rw[Q];clear Q;generalize qG t.m9 m c.ml=ML at *;have N:Hid (eA wr (w.heap.size+1) #[.string t.name,.int .i64 t.l9,.slice q t.m9.length v,.slice o t.s9.length r] 100):=M.out.later d.out;have J:Hid _:=nA A.out d.out;have y3:wr.cell? ⟨w.heap.size+1,3,none⟩=some (.slice o t.s9.length r):=N.out.cell 3;clear M A d;generalize F:wr=S at *;clear F;go_wp2;clear y3 N;go_loopw [12,14,46] (fun n _ i wr=>∃k:Nat,k<=t.s9.length/\i=.int .i64 k/\n=.int .i64 (wN vD (t.s9.take k) m:Nat)/\Below S.heap.size S wr) (fun _ _ i _=>t.s9.length-(intOf i).toNat)
   case atStart=>exact⟨0,La _,rfl,rfl,Below.refl _ _⟩
   case round=>
    obtain⟨j,hj,rfl,rfl,a⟩:=hrel;have d:Hid _:=a;clear a;by_cases b:j<t.s9.length
    ·obtain⟨Z,po,rfl,E,z0,z1⟩:=(V.out.later (nA J.out d.out)).at b;have g:Hid (wN vD (t.s9.take (j+1)) m=wN vD (t.s9.take j) m+if (vD t.s9[j].s).toList==m.toList then 1 else 0):=lx _ _ _ b;have K:Hid (∀W,Calls prog 144 #[.string t.s9[j].s] W fun e I=>e=.returned (.string (vD t.s9[j].s))/\Below W.heap.size W I):=fun W=>nW t.s9[j].s W (B.out j b);have X:wN vD (t.s9.take j) m<=1000000000:=by have:=je vD (t.s9.take j) m;rw[Hb]at this;omega
     generalize t.s9[j]=P at *;generalize vD P.s=mk at *;generalize wN vD (t.s9.take j) m=L at *;go_wp2_with fail;refine(K.out _).mono ?_;rintro e w5 ⟨rfl,x⟩;have u:Hid _:=nA d.out (nA (cA _ _) x);clear x K;by_cases h:(mk.toList==m.toList)=true
     ·have f:Hid (wN vD (t.s9.take (j+1)) m=L+1):=by show _=_;rw[g.out,Qa h]
      clear g;go_wp2;exact⟨⟨j+1,by omega,by go_num,by rw[f.out];go_num,u.out⟩,by simp[intOf];omega⟩
     ·have D:(mk.toList==m.toList)=false:=by simpa using h
      have f:Hid (wN vD (t.s9.take (j+1)) m=L):=by show _=_;rw[g.out,Oa h];rfl
      clear g h;go_wp2;exact⟨⟨j+1,by omega,by go_num,by rw[f.out],u.out⟩,by simp[intOf];omega⟩
    ·have O:t.s9.take j=t.s9:=Ua (by omega);rw[O];clear O;go_wp2;go_ret2;exact⟨bK (by rw[p.out]) (by rw[p.out]),nA J.out d.out⟩
