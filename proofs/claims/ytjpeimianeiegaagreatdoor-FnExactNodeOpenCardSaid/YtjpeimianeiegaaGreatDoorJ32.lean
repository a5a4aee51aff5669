import Derived.Test.YtjpeimianeiegaaGreatDoorJ29
set_option maxRecDepth 100000
set_option maxHeartbeats 8000000
namespace Go.Proofs.YtjpeimianeiegaaGreatDoor
open Go.RowKit Tryz
def aJn (a:List fA):Prop:=∀i (h:i<a.length),a[i].s.size<=1000000000
def aNj (a:List eA):Prop:=∀i (h:i<a.length),a[i].name.size<=maxLen/\aJn a[i].m9/\aJn a[i].s9/\a[i].m9.length<=1000000000/\a[i].s9.length<=1000000000
structure PS (w W:World) (c:nB) (now:Int) (a:Option Addr) (n cap:Nat):Prop where
 C:lA W w.heap.size #[.int .i64 c.w,.int .i64 c.tl,.int .i64 c.ml,.int .i64 c.sh,.int .i64 c.ha,.int .i64 c.sg] 40
 S:lA W (w.heap.size+1) #[.int .i64 now,.slice a n cap] 35
 B:Below w.heap.size w W
theorem PS.later {w W f:World} {c:nB} {d:Int} {a:Option Addr} {n b:Nat} (h:PS w W c d a n b) (e:Below W.heap.size W f):PS w f c d a n b:=⟨h.C.later e,h.S.later e,pA h.B e⟩
theorem vI (c:nB) (f:Int) (a:Option Addr) (cap:Nat) (l:List eA) (w:World) (hf:eC w a l) (hb:aNj l) (hlen:l.length<=1000000000):
 Calls prog 47 #[tE c,.agg #[.int .i64 f,.slice a l.length cap]] w fun e w'=>e=.returned (.bool (iB c f l))/\Below w.heap.size w w':=by
 have HC:=bA (fun W=>LB c W);have HSB:Hid (iB c f l=(vF c&&uA f 0 1000000000000&&decide (l.length<=10000) &&yM c.w f l)):=rfl;have HF:=bA hf;have HB:=bA hb;clear hf hb;unfold tE at *;have hcs:(vF c=false\/vF c=true/\(uA f 0 1000000000000=false\/uA f 0 1000000000000=true/\(10000:Int)<l.length))/\iB c f l=false\/vF c=true/\uA f 0 1000000000000=true/\¬(10000:Int)<l.length/\iB c f l=yM c.w f l:=by
  rw[HSB.out];cases vF c<;>cases uA f 0 1000000000000<;>simp
  by_cases h:(10000:Int)<l.length
  ·exact Ba ⟨h,fun h'=>by omega⟩
  ·exact Ea ⟨by omega,fun _=>by omega⟩
 clear HSB;have HP:=fun {W:World} (hb:Below _ (World.alloc (World.alloc w (.cells #[.int .i64 c.w,.int .i64 c.tl,.int .i64 c.ml,.int .i64 c.sh,.int .i64 c.ha,.int .i64 c.sg] 40)) (.cells #[.int .i64 f,.slice a l.length cap] 35)) W)=>bA (show PS w W c f a l.length cap from⟨((lA.new _ _ _).alloc _).later hb,by have:=(lA.new (w.alloc (.cells #[.int .i64 c.w,.int .i64 c.tl,.int .i64 c.ml,.int .i64 c.sh,.int .i64 c.ha,.int .i64 c.sg] 40)) #[.int .i64 f,.slice a l.length cap] 35).later hb;simpa using this,pA (pA (cA _ _) (cA _ _)) hb⟩);rcases hcs with⟨g0|⟨g0,g1|⟨g1,g2⟩⟩,E⟩|⟨g0,g1,g2,E⟩
 rotate_left 3;rotate_left 1;iterate 3
  ·have E:=bA E
   rw[g0]at HC
   go_enter func47,ntmps47
   go_wp2_with(first
    |(go_at_call 15;refine(HC.out _).mono ?_;rintro e w1 ⟨rfl,Q⟩;have P1:=HP Q;clear Q HP;obtain⟨s0,s1⟩:=P1.out.S.c2)
    |(go_at_call 41;refine(yC (by assumption) _).mono ?_;rintro e w' ⟨rfl,rfl⟩))
   go_ret
   exact⟨kA (by rw[E.out]),P1.out.B⟩
 have HSB2:=bA E;obtain⟨hn0,hn1⟩:=qK g1;rw[g0]at HC;clear E;go_enter func47,ntmps47;go_wp2_with(first
  |(go_at_call 15;refine(HC.out _).mono ?_;rintro e w1 ⟨rfl,Q⟩;have P1:=HP Q;clear Q HP;obtain⟨s0,s1⟩:=P1.out.S.c2)
  |(go_at_call 41;refine(yC g1 _).mono ?_;rintro e w' ⟨rfl,rfl⟩))
 clear s0 s1;go_loopw [5,6,7,8,9,10,29] (fun _ _ _ _ _ _ i wr=>∃k:Nat,k<=l.length/\i=.int .i64 k/\vH (xM c.w f l) k=true/\Below w'.heap.size w' wr) (fun _ _ _ _ _ _ i _=>l.length-(intOf i).toNat)
 case atStart=>exact⟨0,Ha _,rfl,rfl,Below.refl _ _⟩
 case round=>
  obtain⟨k,hk,rfl,hok,X⟩:=hrel;have HOK:=bA hok;have HBEL:=bA X;have PW:=bA (P1.out.later X);clear hok X P1;by_cases Y:k<l.length
  ·obtain⟨b,o,a1,q1,a2,q2,rfl,hbl,t0,t1,t2,t3,p1,p2⟩:=(HF.out.later PW.out.B).at Y;obtain⟨n1,n2,n3,n4,n5⟩:=HB.out k Y;have t:Hid (xM c.w f l k=false->iB c f l=false):=fun h=>by rw[HSB2.out];exact eN h Y
   have y:Hid (xM c.w f l k=(zL l k&&kP c.w f l[k])):=tU Y;have HPRE:Hid (0<k->∃g:ByteArray,zL l k=uH g l[k].name/\wr.cell? ⟨b,o+(k-1)*4,none⟩=some (.string g)):=fun p=>by
    refine⟨_,lU p Y,?_⟩;obtain⟨b',o',_,_,_,_,e,_,u0,_⟩:=(HF.out.later PW.out.B).at (i:=k-1) (by omega)
    simp only[Ja,Addr.mk.injEq,Ub]at e;rw[e.1,e.2];exact u0
   have G:Hid (k=0->zL l k=true):=fun p=>by subst p;rfl
   generalize l[k]=T at *;have O:=bA (fun W=>eK T.name W n1);have M:=bA (fun W=>AR T a1 a2 q1 q2 W);have H:Hid (kP c.w f T=(kC T.name&&uA T.l9 (-1) 1000000&&yL T.m9&&aL c.w f T.s9&&!bE T)):=rfl;have hc2:(kC T.name=false\/kC T.name=true/\(uA T.l9 (-1) 1000000=false\/uA T.l9 (-1) 1000000=true/\bE T=true))/\kP c.w f T=false\/kC T.name=true/\uA T.l9 (-1) 1000000=true/\bE T=false/\kP c.w f T=(yL T.m9&&aL c.w f T.s9):=by
    rw[H.out];cases kC T.name<;>cases uA T.l9 (-1) 1000000<;>cases bE T<;>simp
   clear H;rcases hc2 with⟨e1|⟨e1,e2|⟨e2,e3⟩⟩,E⟩|⟨e1,e2,e3,E⟩
   rotate_left 3;rotate_left 1;iterate 3
    ·have E:=bA E
     rw[e1]at O
     try rw[e3]at M
     go_wp2_with(first
      |(go_at_call 81;refine(O.out _).mono ?_;rintro e w2 ⟨rfl,hw⟩;replace hw:=hw.symm;subst hw)
      |(go_at_call 41;refine(yC (by assumption) _).mono ?_;rintro e w2 ⟨rfl,hw⟩;replace hw:=hw.symm;subst hw)
      |(go_at_call 82;refine(M.out _).mono ?_;rintro e w3 ⟨rfl,R⟩))
     go_ret
     exact⟨kA (t.out (by rw[y.out,E.out];simp)).symm,by first|exact pA PW.out.B (pA (cA _ _) R)|exact pA PW.out.B (cA _ _)⟩
   have H:=bA E;rw[e1]at O;rw[e3]at M;clear E;go_upto_region 8 with(first
    |(go_at_call 81;refine(O.out _).mono ?_;rintro e w2 ⟨rfl,hw⟩;replace hw:=hw.symm;subst hw)
    |(go_at_call 41;refine(yC e2 _).mono ?_;rintro e w2 ⟨rfl,hw⟩;replace hw:=hw.symm;subst hw)
    |(go_at_call 82;refine(M.out _).mono ?_;rintro e w3 ⟨rfl,R⟩))
   have T3:=bA ((lA.new wr #[.string T.name,.int .i64 T.l9,.slice a1 T.m9.length q1,.slice a2 T.s9.length q2] 107).later R);have J:=pA (cA _ _) R;have P3:=bA (PW.out.later J);have B3:=bA (pA HBEL.out J);have Q3:=bA (Ee (p1.later J) (p2.later J));have N:Hid (0<k->∃g:ByteArray,zL l k=uH g T.name/\w3.cell? ⟨b,o+(k-1)*4,none⟩=some (.string g)):=fun p=>by
    obtain⟨g,e1,e2⟩:=HPRE.out p;exact⟨g,e1,(J.cell hbl).trans e2⟩
   clear R J HPRE p1 p2 t0 t1 t2 t3 PW HBEL M O;generalize wr.heap.size=tb at *;clear wr;go_cut [61] (fun s wx=>s=.bool (!(zL l k))/\Below w3.heap.size w3 wx)
   case first=>
    obtain⟨-,x0⟩:=P3.out.S.c2;obtain⟨x1,-⟩:=T3.out.c4;have hv:(∃g,((0:Int)<k/\0<k)/\w3.cell? ⟨b,o+(k-1)*4,none⟩=some (.string g)/\zL l k=uH g T.name)\/decide ((0:Int)<k)=false/\decide (0<k)=false/\zL l k=true:=by
     by_cases p:0<k
     ·obtain⟨g,hp,K⟩:=N.out p;exact Ba ⟨g,⟨by omega,p⟩,K,hp⟩
     ·exact Ea ⟨by simp;omega,by simp;omega,G.out (by omega)⟩
    rcases hv with⟨g,⟨p,h0'⟩,K,HP⟩|⟨hd,hd',HP⟩
    all_goals
     have HP:=bA HP;go_quiet (fail)
     go_wp2_with fail;go_meet;exact⟨by rw[HP.out];rfl,below_drewN (Below.refl _ _) _⟩
   obtain⟨rfl,I⟩:=hcut;rename World=>w4;have T4:=bA (T3.out.later I);have PW:=bA (P3.out.later I);have B4:=bA (pA B3.out I);have P14:=bA (Q3.out.1.later I);have P24:=bA (Q3.out.2.later I);clear I T3 P3 B3 Q3 N G;cases e4:zL l k
   ·rw[e4]at y;go_wp2;go_ret;exact⟨kA (t.out (by rw[y.out];simp)).symm,PW.out.B⟩
   rw[e4]at y;obtain⟨-,-,y2,-⟩:=T4.out.c4;go_wp2;clear y2;go_loopw [7,8,65] (fun _ _ j wr=>∃i:Nat,i<=T.m9.length/\j=.int .i64 i/\vH (nK T.m9) i=true/\Below w4.heap.size w4 wr) (fun _ _ j _=>T.m9.length-(intOf j).toNat)
   case atStart=>exact⟨0,Ha _,rfl,rfl,Below.refl _ _⟩
   case round=>
    obtain⟨i,hi,rfl,Z,U⟩:=hrel;have F:=bA Z;have m:=bA U;clear Z U;by_cases q:i<T.m9.length
    ·obtain⟨pb,po,rfl,a0,c0,c1⟩:=(P14.out.later m.out).at q;have HMF:Hid _:=fun h=>t.out (by rw[y.out,H.out];have:yL T.m9=false:=eN h q;rw[this];simp);have HMA:Hid _:=mX q;have hsz:=n2 i q;have u:Hid (0<i->∃g:ByteArray,yJ T.m9 i=uH g T.m9[i].s/\wr.cell? ⟨pb,po+(i-1)*2,none⟩=some (.string g)):=fun p=>by
      refine⟨_,iR p q,?_⟩;obtain⟨b',o',e,_,u0,_⟩:=(P14.out.later m.out).at (i:=i-1) (by omega)
      simp only[Ja,Addr.mk.injEq,Ub]at e;rw[e.1,e.2];exact u0
     have G:Hid (i=0->yJ T.m9 i=true):=fun p=>by subst p;rfl
     generalize T.m9[i]=P at *;have A:=bA (fun W=>lN P.s W hsz);have v:=bA (cA wr (.cells #[.string P.s,.int .i64 P.n] 111));have MB:=bA (lA.new wr #[.string P.s,.int .i64 P.n] 111);go_upto_region 13 with fail;generalize wr.alloc (.cells #[.string P.s,.int .i64 P.n] 111)=W at *;have r:=bA (pA m.out v.out);have TB:=bA (T4.out.later r.out);have PB:=bA (PW.out.later r.out);replace u:Hid (0<i->∃g:ByteArray,yJ T.m9 i=uH g P.s/\W.cell? ⟨pb,po+(i-1)*2,none⟩=some (.string g)):=fun p=>by
      obtain⟨g,e1,e2⟩:=u.out p;exact⟨g,e1,(v.out.cell a0).trans e2⟩
     generalize wr.heap.size=mb at *;clear c0 c1 a0 m v wr;go_cut [95] (fun s wx=>s=.bool (!(nK T.m9 i))/\Below W.heap.size W wx)
     case first=>
      have d:=fun x:oA W=>(⟨(MB.out.later x.h).c2,(TB.out.later x.h).c4,(PB.out.later x.h).S.c2,(PB.out.later x.h).C.c6⟩:_/\_/\_/\_)
      simp only[forall_and]at d;obtain⟨⟨d0,d1⟩,⟨-,-,d2,d3⟩,⟨d4,-⟩,⟨d5,-⟩⟩:=d;have hnel:=oA.there W;have hv:lE P.s=false/\nK T.m9 i=false\/lE P.s=true/\(uA P.n 0 1000000=false/\nK T.m9 i=false\/uA P.n 0 1000000=true/\((∃g,((0:Int)<i/\0<i)/\W.cell? ⟨pb,po+(i-1)*2,none⟩=some (.string g)/\nK T.m9 i=uH g P.s)\/decide ((0:Int)<i)=false/\decide (0<i)=false/\nK T.m9 i=true)):=by
       rw[HMA.out];cases lE P.s
       ·exact Ba ⟨rfl,by simp⟩
       refine Ea ⟨rfl,?_⟩;cases uA P.n 0 1000000
       ·exact Ba ⟨rfl,by simp⟩
       refine Ea ⟨rfl,?_⟩;by_cases p:0<i
       ·obtain⟨g,hp,K⟩:=u.out p;exact Ba ⟨g,⟨by omega,p⟩,K,by rw[hp];simp⟩
       ·exact Ea ⟨by simp;omega,by simp;omega,by rw[G.out (by omega)];rfl⟩
      rcases hv with⟨f1,D⟩|⟨f1,⟨f2,D⟩|⟨f2,⟨g,⟨p,h0'⟩,K,D⟩|⟨hd,hd',D⟩⟩⟩
      all_goals
       have D:=bA D;rw[f1]at A;try have d6:=oA.cells K
       try clear K
       refine jA (by kernel_rfl) (by kernel_rfl) ?_;repeat (go_big_quiet_step (first|(go_at_call 83;exact tA (A.out _))|(go_at_call 41;exact jB (yC (by assumption) _))))
       refine wpQuiet_nil ?_;rintro _ ⟨x,rfl⟩;go_wp2_with fail;go_meet;exact⟨by rw[D.out];rfl,x.h⟩
     obtain⟨rfl,V⟩:=hcut;rename World=>w7;have L:=bA (pA r.out V);clear V r MB TB PB u A;cases f4:nK T.m9 i
     ·have z:=bA f4;go_wp2;go_ret;exact⟨kA (HMF.out z.out).symm,pA PW.out.B L.out⟩
     ·have z:Hid (vH (nK T.m9) (i+1)=true):=by show _=_;rw[lJ,F.out,f4];rfl
      go_wp2;exact⟨⟨i+1,by omega,by go_num,z.out,L.out⟩,by simp[intOf];omega⟩
    ·have ei:i=T.m9.length:=by omega
     have HMB:Hid (yL T.m9=true):=by have:=F.out;rw[ei]at this;exact this
     clear ei;replace T4:=bA (T4.out.later m.out);replace PW:=bA (PW.out.later m.out);replace B4:=bA (pA B4.out m.out);have P25:=bA (P24.out.later m.out);obtain⟨-,-,-,y3⟩:=T4.out.c4;clear P14 P24 m F;go_wp2;clear y3;generalize hwo:wr=wo at *;clear hwo;go_loopw [9,10,100] (fun _ _ j wr=>∃i:Nat,i<=T.s9.length/\j=.int .i64 i/\vH (iH c.w f T.s9) i=true/\Below wo.heap.size wo wr) (fun _ _ j _=>T.s9.length-(intOf j).toNat)
     case atStart=>exact⟨0,Ha _,rfl,rfl,Below.refl _ _⟩
     case round=>
      obtain⟨i,hi,rfl,Z,U⟩:=hrel;have F:=bA Z;have m:=bA U;clear Z U;by_cases q:i<T.s9.length
      ·obtain⟨pb,po,rfl,a0,c0,c1⟩:=(P25.out.later m.out).at q;have HMF:Hid _:=fun h=>t.out (by rw[y.out,H.out];have:aL c.w f T.s9=false:=eN h q;rw[this];simp);have HMA:Hid (iH c.w f T.s9 i=(yJ T.s9 i&&aJ T.s9[i].s&&uA T.s9[i].n 0 f&&decide (f-T.s9[i].n<c.w))):=pU q;have hsz:=n3 i q;have u:Hid (0<i->∃g:ByteArray,yJ T.s9 i=uH g T.s9[i].s/\wr.cell? ⟨pb,po+(i-1)*2,none⟩=some (.string g)):=fun p=>by
        refine⟨_,iR p q,?_⟩;obtain⟨b',o',e,_,u0,_⟩:=(P25.out.later m.out).at (i:=i-1) (by omega)
        simp only[Ja,Addr.mk.injEq,Ub]at e;rw[e.1,e.2];exact u0
       have G:Hid (i=0->yJ T.s9 i=true):=fun p=>by subst p;rfl
       generalize T.s9[i]=P at *;have A:=bA (fun W=>IG P.s W hsz);have v:=bA (cA wr (.cells #[.string P.s,.int .i64 P.n] 113));have MB:=bA (lA.new wr #[.string P.s,.int .i64 P.n] 113);go_upto_region 19 with fail;generalize wr.alloc (.cells #[.string P.s,.int .i64 P.n] 113)=W at *;have r:=bA (pA m.out v.out);have TB:=bA (T4.out.later r.out);have PB:=bA (PW.out.later r.out);replace u:Hid (0<i->∃g:ByteArray,yJ T.s9 i=uH g P.s/\W.cell? ⟨pb,po+(i-1)*2,none⟩=some (.string g)):=fun p=>by
        obtain⟨g,e1,e2⟩:=u.out p;exact⟨g,e1,(v.out.cell a0).trans e2⟩
       generalize wr.heap.size=mb at *;clear c0 c1 a0 m v wr;go_cut [142] (fun s wx=>s=.bool (!(iH c.w f T.s9 i))/\Below W.heap.size W wx)
       case first=>
        have d:=fun x:oA W=>(⟨(MB.out.later x.h).c2,(TB.out.later x.h).c4,(PB.out.later x.h).S.c2,(PB.out.later x.h).C.c6⟩:_/\_/\_/\_)
        simp only[forall_and]at d;obtain⟨⟨d0,d1⟩,⟨-,-,d2,d3⟩,⟨d4,-⟩,⟨d5,-⟩⟩:=d;have hnel:=oA.there W;have hv:aJ P.s=false/\iH c.w f T.s9 i=false\/aJ P.s=true/\(uA P.n 0 f=false/\iH c.w f T.s9 i=false\/uA P.n 0 f=true/\(0<=P.n/\P.n<=f)/\(c.w<=f-P.n/\iH c.w f T.s9 i=false\/decide (c.w<=f-P.n)=false/\((∃g,((0:Int)<i/\0<i)/\W.cell? ⟨pb,po+(i-1)*2,none⟩=some (.string g)/\iH c.w f T.s9 i=uH g P.s)\/decide ((0:Int)<i)=false/\decide (0<i)=false/\iH c.w f T.s9 i=true))):=by
         rw[HMA.out];cases aJ P.s
         ·exact Ba ⟨rfl,by simp⟩
         refine Ea ⟨rfl,?_⟩;cases hb:uA P.n 0 f
         ·exact Ba ⟨rfl,by simp⟩
         refine Ea ⟨rfl,qK hb,?_⟩;by_cases f3:c.w<=f-P.n
         ·exact Ba ⟨f3,by rw[Mb (show ¬f-P.n<c.w by omega)];simp⟩
         refine Ea ⟨by simpa using f3,?_⟩;rw[Rb (show f-P.n<c.w by omega)];by_cases p:0<i
         ·obtain⟨g,hp,K⟩:=u.out p;exact Ba ⟨g,⟨by omega,p⟩,K,by rw[hp];simp⟩
         ·exact Ea ⟨by simp;omega,by simp;omega,by rw[G.out (by omega)];rfl⟩
        rcases hv with⟨f1,D⟩|⟨f1,⟨f2,D⟩|⟨f2,⟨r0,r1⟩,⟨f3,D⟩|⟨f3,⟨g,⟨p,h0'⟩,K,D⟩|⟨hd,hd',D⟩⟩⟩⟩
        all_goals
         have D:=bA D;rw[f1]at A;try have d6:=oA.cells K
         try clear K
         refine jA (by kernel_rfl) (by kernel_rfl) ?_;repeat (go_big_quiet_step (first|(go_at_call 84;exact tA (A.out _))|(go_at_call 41;exact jB (yC (by assumption) _))))
         refine wpQuiet_nil ?_;rintro _ ⟨x,rfl⟩;go_wp2_with fail;go_meet;exact⟨by rw[D.out];rfl,x.h⟩
       obtain⟨rfl,V⟩:=hcut;rename World=>w7;have L:=bA (pA r.out V);clear V r MB TB PB u A;cases f4:iH c.w f T.s9 i
       ·have z:=bA f4;go_wp2;go_ret;exact⟨kA (HMF.out z.out).symm,pA PW.out.B L.out⟩
       ·have z:Hid (vH (iH c.w f T.s9) (i+1)=true):=by show _=_;rw[lJ,F.out,f4];rfl
        go_wp2;exact⟨⟨i+1,by omega,by go_num,z.out,L.out⟩,by simp[intOf];omega⟩
      ·have ei:i=T.s9.length:=by omega
       have HSS:Hid (aL c.w f T.s9=true):=by have:=F.out;rw[ei]at this;exact this
       have HNX:Hid (vH (xM c.w f l) (k+1)=true):=by
        show _=_;rw[lJ,HOK.out,y.out,H.out,HMB.out,HSS.out];rfl
       clear ei;go_wp2;exact⟨⟨k+1,by omega,by go_num,HNX.out,pA B4.out m.out⟩,by simp[intOf];omega⟩
  ·have ek:k=l.length:=by omega
   have HEND:Hid (iB c f l=true):=by show _=_;rw[HSB2.out];have:=HOK.out;rw[ek]at this;exact this
   go_wp2;go_ret;exact⟨kA HEND.out.symm,PW.out.B⟩
