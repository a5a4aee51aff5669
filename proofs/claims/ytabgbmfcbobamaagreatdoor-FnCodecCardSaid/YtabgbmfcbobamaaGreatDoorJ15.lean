import Derived.Test.YtabgbmfcbobamaaGreatDoorJ12
set_option maxRecDepth 100000
set_option maxHeartbeats 8000000
namespace Go.Proofs.YtabgbmfcbobamaaGreatDoor
open Go.RowKit Tryz
def rr (v:Int):Prop:=-9223372036854775808<=v/\v<=9223372036854775807
def aDi (a:List jD):Prop:=∀i (h:i<a.length),rr a[i].bits
def WE (r:vI):ByteArray×Bool:=haveI:=aGk r;if kO r then(uS r,true) else(ByteArray.empty,false)
theorem OY:∀(a:List jD),(cD a).size<=9*a.length+3*eC a
 |[]=>by simp[cD]
 |x::r=>by
  have h:=OY r;have b:=mM x;show(tP x++cD r).size<=9*(r.length+1)+3*(x.labs.length+wB x.labs+eC r);rw[Ga];omega
theorem sr {x:ByteArray}:x.toList=[] ↔ x.size=0:=by rw[ByteArray.toList_eq,<-Qb];simp
theorem QE {v v':Value} {n b:Nat} (h:v.ownBlock≠some b) (a:v'.ownBlock=v.ownBlock\/v'.ownBlock=some n) (d:b<n):v'.ownBlock≠some b:=by
 rcases a with e|e
 ·rw[e];exact h
 ·rw[e];intro c;have:=Jd c;omega
structure GP (w W:World) (cs:Array Value) (v:Value) (st:ByteArray):Prop where
 Q:eA W w.heap.size cs 44
 O:oJ W (w.heap.size+1) v st
 N:Below w.heap.size w W
section
variable {w W W':World} {cs:Array Value} {v v':Value} {st x:ByteArray}
theorem GP.later (h:GP w W cs v st) (a:Below W.heap.size W W'):GP w W' cs v st:=⟨h.Q.later a,h.O.later a,nA h.N a⟩
theorem GP.size (h:GP w W cs v st):w.heap.size+1<=W.heap.size:=aA h.Q
theorem GP.grow (h:GP w W cs v st) (b:oJ W' (w.heap.size+1) v' x) (a:Below (w.heap.size+1) W W'):GP w W' cs v' x:=⟨(a.block w.heap.size (Ye _)).trans h.Q,b,h.N.trans (a.mono (by omega))⟩
end
theorem IY (r:vI):Hid (¬kO r->WE r=(ByteArray.empty,false))/\Hid (kO r->WE r=(uS r,true)):=⟨fun h=>by unfold WE;exact Oa h,fun h=>by unfold WE;exact Qa h⟩
theorem dr (r:vI) (a:Option Addr) (z:Nat) (w:World) (U:yF r<=8000000) (m:rr r.num) (A:r.kind≠1):
 Calls prog 43 #[.agg #[.int .i64 r.kind,.string r.n9,.string r.metric,.int .i64 r.num,.slice a r.smps.length z]] w fun e w'=>e=.returned (.tuple #[.string (WE r).1,.bool (WE r).2])/\Below w.heap.size w w':=by
 obtain⟨f,l⟩:=IY r;have d:yF r=r.n9.size+r.metric.size+r.smps.length+eC r.smps:=rfl;generalize WE r=V at *;obtain⟨k,o,n,q,u⟩:=r;dsimp only at *;have b:=bA (fun W=>hC k 1 6 W);have y:=bA (fun W (h:0<=k/\k<=6)=>aC 1 k W (by omega) (by omega) (by omega));have K:=bA (fun W=>bN o W (by omega));have I:=bA (fun W=>pK n W (by omega));have J:=bA (fun W=>aC 8 q W (by omega) m.1 m.2);have z1:=iA 1 k;have z2:=mE o;have z3:=oD n;have z4:=iA 8 q;have X:o.size<=8000000:=by omega
 have Y:n.size<=8000000:=by omega
 have Z:u.length<=8000000:=by omega
 have H:Hid (uS ⟨k,o,n,q,u⟩=fA 1 k++((if xQ k=true then oK o else ByteArray.empty)++((if uQ k=true then nD n else ByteArray.empty)++(if fR k=true then fA 8 q else ByteArray.empty)))):=by
  show _=_;rw[uS];dsimp only;rw[Oa A,zv]
 generalize uS ⟨k,o,n,q,u⟩=RX at *;generalize fA 1 k=L at *;generalize oK o=ST at *;generalize nD n=SM at *;generalize fA 8 q=SN at *;obtain⟨F,D,t,s⟩:=AM L (by omega);have c:=bA s;have T:k=2\/k=3\/k=4\/k=5\/k=6\/xA k 1 6=false/\(k==1)=false/\(k==2)=false/\(k==3)=false/\(k==5)=false/\(k==6)=false:=by
  by_cases h:1<=k/\k<=6
  ·omega
  ·refine Ja (Ja (Ja (Ja (Ja ⟨?_,?_,?_,?_,?_,?_⟩))))<;>(first|(unfold xA;simp;omega)|(simp;omega))
 clear s d U m;rcases T with rfl|rfl|rfl|rfl|rfl|⟨p,b1,b2,b3,b5,b6⟩
 rotate_left 5
 ·rw[p]at b;have E:=bA (f.out (fun h=>by have:=h.1;simp[xA]at p;dsimp only at this;omega));clear A l f H y K I J t c p;go_enter func43,ntmps43;go_wp2_with(go_at_call 25;refine pD (b.out _) ?_);go_ret2;exact⟨by rw[E.out];rfl,cA _ _⟩
 all_goals
  clear A;replace y:=bA (fun W=>y.out W (by omega));rw[show xA _ 1 6=true from rfl]at b;go_enter func43,ntmps43;go_upto_region 10 with(go_at_call 25;refine pD (b.out _) ?_)
 all_goals first
  |(go_ret2
    exact⟨by rw[f.out (by rintro⟨_,q1,q2,q3,q4,q5,q6,q7,_⟩;dsimp only at *;simp_all[xQ,uQ,fR,sr]<;>omega)];rfl,cA _ _⟩)
  |skip
 all_goals
  have C:u=[]:=by have:(↑u.length != (0:Int))=false:=by assumption
                  simpa using this
  have E:=bA (l.out ⟨by simp,by simp_all[xQ,sr],by simp_all[uQ,sr],by simp_all[fR],fun _=>C,by dsimp only;omega,by dsimp only;omega,by dsimp only;omega,by rw[C];intro i S;cases S⟩);clear l f C b;go_wp2_with fail;refine(y.out _).mono ?_;rintro e j ⟨rfl,g⟩;have P:w.heap.size+1<=j.heap.size:=by have:=g.size;simpa using this
  have G:Hid (GP w (D j) _ (F j) L):=⟨((eA.new _ _ _).later g).later (c.out j).2,(c.out j).1.mono P,nA (nA (cA _ _) g) (c.out j).2⟩
  clear g P;go_upto_region 11 with fail;generalize D j=W at *;generalize F j=v at *;clear t c;obtain⟨r0,r1,r2,r3,r4⟩:=G.out.Q.c5;have B:=zY G.out.O;go_wp2_with(first|(go_at_call 28;refine(K.out _).mono ?_;rintro e R ⟨rfl,d⟩;replace G:=bA (G.out.later d);clear d)|(go_at_call 29;refine(I.out _).mono ?_;rintro e R ⟨rfl,d⟩;replace G:=bA (G.out.later d);clear d)|(go_at_call 26;refine(J.out _).mono ?_;rintro e R ⟨rfl,d⟩;replace G:=bA (G.out.later d);clear d)|(at_builtin;refine uH _ rfl _ _ rfl (w.heap.size+1) _ _ _ rfl G.out.O rfl (by have:=G.out.size;omega) (by first|omega|(simp only[Ga];omega)) ?_;intro v5 w5 M p _ _ _;replace G:=bA (G.out.grow M p);clear M p;obtain⟨r0,r1,r2,r3,r4⟩:=G.out.Q.c5;have B:=zY G.out.O));go_ret2;exact⟨by rw[E.out,H.out];simp[xQ,uQ,fR,Gb],G.out.N⟩
theorem dt (r:vI) (a:Option Addr) (cap:Nat) (w:World) (hf:sE w a r.smps) (hz:yF r<=8000000) (hnu:rr r.num) (hbi:aDi r.smps) (H:r.kind=1):
 Calls prog 43 #[.agg #[.int .i64 r.kind,.string r.n9,.string r.metric,.int .i64 r.num,.slice a r.smps.length cap]] w fun e w'=>e=.returned (.tuple #[.string (WE r).1,.bool (WE r).2])/\Below w.heap.size w w':=by
 obtain⟨HNO,HOK⟩:=IY r;have S:yF r=r.n9.size+r.metric.size+r.smps.length+eC r.smps:=rfl;generalize WE r=V at *;obtain⟨k,U,me,nu,f⟩:=r;dsimp only at *;subst H;have HBT:=bA (fun W=>hC 1 1 6 W);rw[show xA 1 1 6=true from rfl]at HBT;have HU:=bA (fun W=>aC 1 1 W (by omega) (by omega) (by omega));have HT:=bA (fun W=>bN U W (by omega));have HC:=bA (fun W=>aC 2 (f.length:Nat) W (by omega) (by omega) (by omega));have z1:=iA 1 1;have z2:=mE U;have z3:=iA 2 (f.length:Nat);have hz1:U.size<=8000000:=by omega
 have hz2:me.size<=8000000:=by omega
 have hz3:eC f<=8000000:=by omega
 have EX:Hid (uS ⟨1,U,me,nu,f⟩=fA 1 1++oK U++fA 2 (f.length:Nat)++cD f):=by show _=_;simp[uS,xQ,uQ,fR,Gb]
 generalize uS ⟨1,U,me,nu,f⟩=RX at *;generalize fA 1 1=N1 at *;generalize oK U=ST at *;generalize fA 2 (f.length:Nat)=SC at *;obtain⟨CV,CN,hcv,hcn⟩:=AM N1 (by omega);have d0:=bA hcn;have HF:=bA hf;have HBI:=bA hbi;clear hcn S hz hnu hf hbi;go_enter func43,ntmps43;go_upto_region 10 with(go_at_call 25;refine pD (HBT.out _) ?_)
 all_goals first
  |(go_ret2
    exact⟨by rw[HNO.out (by rintro⟨_,q1,q2,q3,q4,q5,q6,q7,_⟩;dsimp only at *;simp_all[xQ,uQ,fR,sr]<;>omega)];rfl,cA _ _⟩)
  |skip
 have hq:U.size<=255/\me.size<=65535/\f.length<=500:=⟨by omega,by omega,by omega⟩
 have HGO:Hid (ry f->V=(N1++ST++SC++cD f,true)):=fun h=>by rw[<-EX.out];exact HOK.out ⟨by simp,by simp[xQ],by simp_all[uQ,sr],by simp_all[fR],fun h=>absurd rfl h,hq.1,hq.2.1,hq.2.2,h⟩
 have HNA:Hid (¬ry f->V=(ByteArray.empty,false)):=fun h=>HNO.out fun hh=>h hh.2.2.2.2.2.2.2.2;obtain⟨q1,q2,q3⟩:=hq;clear HOK HNO HBT EX;go_wp2_with fail;refine(HU.out _).mono ?_;rintro e Y ⟨rfl,B⟩;have hs:w.heap.size+1<=Y.heap.size:=by have:=B.size;simpa using this
 have G:Hid (GP w (CN Y) _ (CV Y) N1):=⟨((eA.new _ _ _).later B).later (d0.out Y).2,(d0.out Y).1.mono hs,nA (nA (cA _ _) B) (d0.out Y).2⟩
 clear B hs;go_upto_region 11 with fail;generalize CN Y=W at *;generalize CV Y=v at *;clear hcv d0;obtain⟨r0,r1,r2,r3,r4⟩:=G.out.Q.c5;have hbk:=zY G.out.O;go_wp2_with(first|(go_at_call 28;refine(HT.out _).mono ?_;rintro e wx ⟨rfl,S⟩;replace G:=bA (G.out.later S);clear S)|(go_at_call 26;refine(HC.out _).mono ?_;rintro e wx ⟨rfl,S⟩;replace G:=bA (G.out.later S);clear S)|(at_builtin;refine uH _ rfl _ _ rfl (w.heap.size+1) _ _ _ rfl G.out.O rfl (by have:=G.out.size;omega) (by first|omega|(simp only[Ga];omega)) ?_;intro v5 w5 hr hB _ _ _;replace G:=bA (G.out.grow hr hB);clear hr hB;obtain⟨r0,r1,r2,r3,r4⟩:=G.out.Q.c5;have hbk:=zY G.out.O));have hst0:(N1++ST++SC).size<=9000000:=by simp only[Ga];omega
 generalize N1++ST++SC=H0 at *;clear r0 r1 r2 r3 r4 hbk z1 z2 z3 HT HC HU;go_loopw [7,138] (fun out i wr=>∃(k:Nat) (st:ByteArray),k<=f.length/\i=.int .i64 k/\Hid (st=H0++cD (f.take k))/\Hid (∀j (h:j<f.length),j<k->GH f[j])/\Hid (GP w wr #[.int .i64 1,.string U,.string me,.int .i64 nu,.slice a f.length cap] out st)) (fun _ i _=>f.length-(intOf i).toNat)
 case atStart=>exact⟨0,H0,La _,rfl,by show _=_;simp[cD],fun j _ h=>absurd h (by omega),G.out⟩
 case round=>
  obtain⟨k,st,hk,rfl,F,y,R⟩:=hrel;have hst:st.size<=60000000:=by
   have H:=OY (f.take k);have h2:=yS f k;rw[F.out,Ga];rw[Hb]at H;omega
  clear G;by_cases M:k<f.length
  ·obtain⟨b,o,a1,q1,rfl,S,c0',c1',p1⟩:=HF.out.at M;have c0:=(R.out.N.cell (p:=⟨b,o+k*2,none⟩) S).trans c0';have c1:=(R.out.N.cell (p:=⟨b,o+k*2+1,none⟩) S).trans c1';have hbs:=qU f k M;have hbe:kG f[k]=f[k].labs.length+wB f[k].labs:=rfl;have hr1:=HBI.out k M;have hsz:=R.out.size;have HNL:Hid (¬GH f[k]->V=(ByteArray.empty,false)):=fun hno=>HNA.out fun h=>hno (h k M);have E2:Hid (∀SL S8,SL=fA 1 (f[k].labs.length:Nat)->S8=fA 8 f[k].bits->st++SL++cC f[k].labs++S8=H0++cD (f.take (k+1))):=fun SL S8 e1 e2=>by rw[jZ f k M,F.out,tP,nI,e1,e2];simp only[Gb]
   have Z:Hid (GH f[k]->∀j (h:j<f.length),j<k+1->GH f[j]):=fun hh j h hj=>by
    rcases Rc j k with H|H
    ·exact y.out j h H
    ·obtain rfl:j=k:=by omega
     exact hh
   have HLN:=bA (fun W (h:f[k].labs.length<=255)=>aC 1 (f[k].labs.length:Nat) W (by omega) (by omega) (by omega));have HB8:=bA (fun W=>aC 8 f[k].bits W (by omega) hr1.1 hr1.2);have zl:=iA 1 (f[k].labs.length:Nat);have z8:=iA 8 f[k].bits;have HPL:=bA p1;unfold GH at HNL Z;clear p1 c0' c1' y F hr1;generalize fA 1 (f[k].labs.length:Nat)=SL at *;generalize fA 8 f[k].bits=S8 at *;replace E2:=bA (E2.out SL S8 rfl rfl);generalize f[k].labs=g at *;generalize f[k].bits=bi at *;have hlb:wB g<=8000000:=by omega
   obtain⟨gv,J,K,L⟩:=R.out.O.lt;have D:Hid (u7.ownBlock≠some wr.heap.size):=by show _≠_;rw[J];intro e;have:=Jd e;omega
   have G:=bA (R.out.later (cA wr (.cells #[.slice a1 g.length q1,.int .i64 bi] 126)));have X:=bA (eA.new wr #[.slice a1 g.length q1,.int .i64 bi] 126);have BW:=bA R.out.N;clear J K L gv R hbs hbe;by_cases d1:(g.length:Int) > 255
   ·have E:=bA (HNL.out fun h=>by omega);go_wp2;go_ret2;exact⟨by rw[E.out];rfl,nA BW.out (cA _ _)⟩
   go_wp2_with fail;refine(HLN.out _ (by omega)).mono ?_;rintro e W ⟨rfl,hbW⟩;replace G:=bA (G.out.later hbW);replace X:=bA (X.out.later hbW);have z:=aA X.out;clear hbW HLN c0 c1 BW;generalize wr.heap.size=BX at *;clear wr;go_wp2_with(at_builtin;refine uH _ rfl _ _ rfl (w.heap.size+1) _ st SL rfl G.out.O rfl (by omega) (by omega) ?_;intro v5 w5 hr hB C hat _;have X5:=bA ((C BX z D.out).trans X.out);have N5:=bA (QE D.out hat z);replace G:=bA (G.out.grow hr hB);clear hr hB C hat;have y0:=eA.cell X5.out 0);have hst1:(st++SL).size<=60000001:=by rw[Ga];omega
   clear X D z hst;generalize st++SL=st1 at *;go_loopw [7,155] (fun out j wr=>∃(m:Nat) (n:ByteArray),m<=g.length/\j=.int .i64 m/\Hid (n=st1++cC (g.take m))/\Hid (∀i (h:i<g.length),i<m->KY g[i])/\Hid (GP w wr #[.int .i64 1,.string U,.string me,.int .i64 nu,.slice (some ⟨b,o,none⟩) f.length cap] out n)/\Hid (out.ownBlock≠some BX)/\Hid (eA wr BX #[.slice a1 g.length q1,.int .i64 bi] 126)) (fun _ j _=>g.length-(intOf j).toNat)
   case atStart=>exact⟨0,st1,La _,rfl,by show _=_;simp[cC],fun i _ h=>absurd h (by omega),G.out,N5.out,X5.out⟩
   case round=>
    obtain⟨m,n,hm,rfl,t,u,s,N2,X2⟩:=hrel;have hst2:n.size<=100000000:=by have H:=tI (g.take m);have h2:=yJ g m;rw[Hb]at H;rw[t.out,Ga];omega
    clear G N5 X5 y0;by_cases A:m<g.length
    ·obtain⟨b2,o2,rfl,I,f0',f1'⟩:=HPL.out.at A;have c:=(s.out.N.cell (p:=⟨b2,o2+m*2,none⟩) I).trans f0';have d:=(s.out.N.cell (p:=⟨b2,o2+m*2+1,none⟩) I).trans f1';have hsz2:=s.out.size;have hli:=UH g m A;have HS8:=bA (fun W=>bN g[m].name W (by omega));have HS16:=bA (fun W=>pK g[m].value W (by omega));have hs3:=mE g[m].name;have hs4:=oD g[m].value;have HNM:Hid (¬KY g[m]->V=(ByteArray.empty,false)):=fun h=>HNL.out fun hh=>h (hh.2 m A);have a0:Hid (KY g[m]->∀i (h:i<g.length),i<m+1->KY g[i]):=fun ok i h hj=>by
      rcases Rc i m with H|H
      ·exact u.out i h H
      ·obtain rfl:i=m:=by omega
       exact ok
     have E3:Hid (∀U3 U4,U3=oK g[m].name->U4=nD g[m].value->n++(U3++U4)=st1++cC (g.take (m+1))):=fun U3 U4 e1 e2=>by rw[yZ g m A,t.out,e1,e2];simp only[Gb]
     unfold KY at HNM a0;clear u t f0' f1';generalize oK g[m].name=U3 at *;generalize nD g[m].value=U4 at *;replace E3:=bA (E3.out U3 U4 rfl rfl);generalize g[m].name=T at *;generalize g[m].value=va at *;have BW:=bA s.out.N;by_cases ok:¬(T.size<=255/\va.size<=65535)
     ·have E:=bA (HNM.out ok);have hg:(T.size:Int) > 255\/¬(T.size:Int) > 255/\(va.size:Int) > 65535:=by omega
      rcases hg with g1|⟨g1,g2⟩
      all_goals
       go_wp2;go_ret2;exact⟨by rw[E.out];rfl,nA BW.out (cA _ _)⟩
     replace a0:=bA (a0.out (by omega));have g1:¬(T.size:Int) > 255:=by omega
     have g2:¬(va.size:Int) > 65535:=by omega
     have m1:¬(9223372036854775807<U3.size+U4.size):=by omega
     have HQ2:Hid (U3.size=1+T.size/\U4.size=2+va.size):=⟨by omega,by omega⟩
     obtain⟨gv,J,K,L⟩:=s.out.O.lt;have D:Hid (u7.ownBlock≠some wr.heap.size):=by show _≠_;rw[J];intro e;have:=Jd e;omega
     have b0:=bA (eA.new wr #[.string T,.string va] 156);have hbn:=cA wr (.cells #[.string T,.string va] 156);replace s:=bA (s.out.later hbn);replace X2:=bA (X2.out.later hbn);clear hs3 hs4 J K L gv ok hbn BW;go_upto_region 31 with fail;generalize wr.alloc (.cells #[.string T,.string va] 156)=W at *;have hBX2:=aA b0.out;have z:=aA X2.out;clear I c d hsz2;generalize wr.heap.size=BY at *;clear wr;have HKX:=bA (fun w' (h:Below W.heap.size W w')=>(b0.out.later h).c2);obtain⟨x0,x1⟩:=b0.out.c2;go_region_held3 (fun w'=>w'.cell? ⟨BY,0,none⟩=some (.string T)/\w'.cell? ⟨BY,1,none⟩=some (.string va))
      (first
       |go_keep
       |exact hkx5
       |exact HKX.out _ l
       |exact HKX.out _ hc1)
      ((first
        |(go_at_call 28;refine(HS8.out _).mono ?_;rintro e Y ⟨rfl,B⟩;have hc1:Below W.heap.size W Y:=(Below.refl _ W).drew.trans B)
        |(go_at_call 29;refine(HS16.out _).mono ?_;rintro e w2 ⟨rfl,I⟩;have l:Below W.heap.size W w2:=hc1.trans (I.mono hc1.size))
        |(have q:=l;clear q;refine uL _ (by rfl) _ _ (by rfl) (w.heap.size+1) _ n (U3++U4) (by rfl) (by exact s.out.O.later l) (by rfl) (by have:=l.size;omega) (by have:=HQ2.out;rw[Ga];omega) ?_;intro v5 w5 P hB5 C hat5 hle5;have hX5:eA w5 BX #[.slice (some ⟨b2,o2,none⟩) g.length q1,.int .i64 bi] 126:=(C BX (by have:=l.size;omega) N2.out).trans (X2.out.later l);have hN5:v5.ownBlock≠some BX:=QE N2.out hat5 (by have:=l.size;omega);have hkx5:w5.cell? ⟨BY,0,none⟩=some (.string T)/\w5.cell? ⟨BY,1,none⟩=some (.string va):=eA.c2 ((C BY (by have:=l.size;omega) D.out).trans (b0.out.later l));have hG5:=GP.grow (s.out.later l) P hB5)))
     replace s:=bA hG5;replace X2:=bA hX5;replace N2:=bA hN5;clear P hB5 hG5 C hkx5 hat5 hle5 hX5 hN5 m1 hst2;generalize n++(U3++U4)=st5 at *;go_wp2;exact⟨⟨m+1,st5,by omega,by go_num,E3.out,a0.out,s.out,N2.out,X2.out⟩,by simp[intOf];omega⟩
    ·replace E2:Hid (n++S8=H0++cD (f.take (k+1))):=by show _=_;rw[<-E2.out,t.out,Ua (by omega)]
     replace Z:=bA (Z.out ⟨by omega,fun i hi=>u.out i hi (by omega)⟩);have y1:=X2.out.cell 1;clear u t;go_wp2_with fail;refine(HB8.out _).mono ?_;rintro e w4 ⟨rfl,hb4⟩;replace s:=bA (s.out.later hb4);have hsz4:=s.out.size;clear hb4 y1 X2 N2;go_wp2_with(at_builtin;refine uH _ rfl _ _ rfl (w.heap.size+1) _ n S8 rfl s.out.O rfl (by omega) (by omega) ?_;intro v5 w5 hr hB _ _ _;replace s:=bA (s.out.grow hr hB);clear hr hB);clear hst2;generalize n++S8=st7 at *;exact⟨⟨k+1,st7,by omega,by go_num,E2.out,Z.out,s.out⟩,by simp[intOf];omega⟩
  ·have E:Hid (V=(st,true)):=by
    have h:=HGO.out fun j hj=>y.out j hj (by omega);show _=_;rw[h,F.out,Ua (by omega)]
   have hbk:=zY R.out.O;have BW:=bA R.out.N;clear y F R;go_wp2;go_ret2;exact⟨by rw[E.out];rfl,BW.out⟩
theorem lq (r:vI) (a:Option Addr) (b:Nat) (w:World) (g:sE w a r.smps) (f:yF r<=8000000) (c:rr r.num) (d:aDi r.smps):
 Calls prog 43 #[.agg #[.int .i64 r.kind,.string r.n9,.string r.metric,.int .i64 r.num,.slice a r.smps.length b]] w fun e i=>e=.returned (.tuple #[.string (WE r).1,.bool (WE r).2])/\Below w.heap.size w i:=by
 by_cases h:r.kind=1
 ·exact dt r a b w g f c d h
 ·exact dr r a b w f c h
theorem oW (r:vI) (a:Option Addr) (b:Nat) (w:World) (i:sE w a r.smps) (j:yF r<=8000000) (f:rr r.num) (d:aDi r.smps):
 Calls prog 11 #[.agg #[.int .i64 r.kind,.string r.n9,.string r.metric,.int .i64 r.num,.slice a r.smps.length b]] w fun e o=>e=.returned (.string (aG r))/\Below w.heap.size w o:=by
 have l:=bA (fun W (m:Below w.heap.size w W)=>lq r a b W (i.later m) j f d);have n:WE r=(ByteArray.empty,false)/\aG r=ByteArray.empty\/(WE r).2=true/\((WE r).1.size<=60000/\aG r=(WE r).1\/60000<(WE r).1.size/\aG r=ByteArray.empty):=by
  by_cases h:kO r
  ·rw[(IY r).2.out h];refine Ja ⟨rfl,?_⟩;by_cases g:(uS r).size<=60000
   ·exact Ca ⟨g,IX h g⟩
   ·exact Ja ⟨by dsimp only;omega,BT (by omega)⟩
  ·exact Ca ⟨(IY r).1.out h,IW h⟩
 clear i j f d;generalize WE r=V at *;generalize aG r=R at *;obtain⟨V,B⟩:=V;dsimp only at *;rcases n with⟨h,rfl⟩|⟨rfl,⟨h,rfl⟩|⟨h,rfl⟩⟩
 cases h
 all_goals
  go_enter func11,ntmps11;go_wp2_with fail;refine(l.out _ (cA _ _)).mono ?_;rintro e p ⟨rfl,c⟩;have k:=bA (nA (cA _ _) c);clear c;go_wp2;go_ret;exact⟨rfl,k.out⟩
