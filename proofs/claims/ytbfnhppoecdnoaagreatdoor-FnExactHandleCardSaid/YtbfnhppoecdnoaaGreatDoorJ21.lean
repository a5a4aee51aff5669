import Derived.Test.YtbfnhppoecdnoaaGreatDoorJ19
import Derived.Test.YtbfnhppoecdnoaaGreatDoorJ15
set_option maxRecDepth 100000
set_option maxHeartbeats 8000000
open ByteArray renaming empty->kA
open Bool renaming false->cA
namespace Go.Proofs.YtbfnhppoecdnoaaGreatDoor
open Value renaming string->nA
open Go.RowKit Tryz
def aCs(v:Int):Prop:=-9223372036854775808<=v/\v<=9223372036854775807
def aNc(a:List cF):Prop:=∀i(h:i<a.length),aCs a[i].bits
def cw(r:xG):gB×Bool:=haveI:=aUh r;if nS r then(dW r,true) else(kA,cA)
theorem YI:∀(a:List cF),(sE a).size<=9*a.length+3*fE a
 |[]=>by simp[sE]
 |x::r=>by
  have h:=YI r;have b:=jQ x;show(nT x++sE r).size<=9*(r.length+1)+3*(x.B.length+nD x.B+fE r);rw[Ka];omega
theorem aIn{x:gB}:x.toList=[] ↔ x.size=0:=by rw[ByteArray.toList_eq,<-Nb];simp
theorem ZP{v v':Value}{n b:Nat}(h:v.ownBlock≠some b)(a:v'.ownBlock=v.ownBlock\/v'.ownBlock=some n)(c:b<n):v'.ownBlock≠some b:=by grind
structure GP(w W:World)(cs:Array Value)(v:Value)(st:gB):Prop where
 Q:iB W w.1.size cs 60
 O:oN W (w.1.size+1) v st
 N:kB w W
section
variable {w W W':World} {cs:Array Value} {v v':Value} {st x:gB}
theorem GP.z(h:GP w W cs v st)(a:kB W W'):GP w W' cs v st:=⟨h.Q.z a,h.O.z a,oB h.N a⟩
theorem GP.size(h:GP w W cs v st):w.1.size+1<=W.1.size:=zA h.Q
theorem GP.grow(h:GP w W cs v st)(b:oN W' (w.1.size+1) v' x)(a:Below (w.1.size+1) W W'):GP w W' cs v' x:=⟨(a.block w.1.size (Nat.lt_succ_self _)).trans h.Q,b,h.N.trans (a.mono (by omega))⟩
end
theorem PR(r:xG):xA (¬nS r->cw r=(kA,cA))/\xA (nS r->cw r=(dW r,true)):=⟨fun h=>by unfold cw;exact Ja h,fun h=>by unfold cw;exact Ma h⟩
theorem ve(r:xG)(a:iC)(z:Nat)(w:World)(U:cJ r<=8000000)(m:aCs r.U)(A:r.K≠1):
 qD 103 #[.agg #[.int .i64 r.K,nA r.T,nA r.R,.int .i64 r.U,.slice a r.P.length z]] w (.tuple #[nA (cw r).1,.bool (cw r).2]):=by
 obtain⟨f,l⟩:=PR r;have d:cJ r=r.T.size+r.R.size+r.P.length+fE r.P:=rfl;generalize cw r=V at *;obtain⟨k,o,n,q,u⟩:=r;dsimp only at *;have b:=yA (fun W=>vD k 1 6 W);have y:=yA (fun W(h:0<=k/\k<=6)=>lD 1 k W (by omega) (by omega) (by omega));have K:=yA (fun W=>rQ o W (by omega));have J:=yA (fun W=>rO n W (by omega));have HN:=yA (fun W=>lD 8 q W (by omega) m.1 m.2);have z1:=qB 1 k;have z2:=lH o;have z3:=uF n;have z4:=qB 8 q;have X:o.size<=8000000:=by omega
 have Y:n.size<=8000000:=by omega
 have Z:u.length<=8000000:=by omega
 have I:xA (dW ⟨k,o,n,q,u⟩=pB 1 k++((if qU k=true then kO o else kA)++((if oU k=true then qF n else kA)++(if zU k=true then pB 8 q else kA)))):=by
  show _=_;rw[dW];dsimp only;rw[Ja A,aOa]
 generalize dW ⟨k,o,n,q,u⟩=RX at *;generalize pB 1 k=L at *;generalize kO o=ST at *;generalize qF n=SM at *;generalize pB 8 q=SN at *;obtain⟨H,F,t,s⟩:=GO L (by omega);have c:=yA s;have T:k=2\/k=3\/k=4\/k=5\/k=6\/wB k 1 6=cA/\(k==1)=cA/\(k==2)=cA/\(k==3)=cA/\(k==5)=cA/\(k==6)=cA:=by
  by_cases h:1<=k/\k<=6
  .omega
  refine La (La (La (La (La ⟨?_,?_,?_,?_,?_,?_⟩))))<;>(first|(unfold wB;simp;omega)|(simp;omega))
 clear s d U m;rcases T with rfl|rfl|rfl|rfl|rfl|⟨p,b1,b2,b3,b5,b6⟩
 rotate_left 5
 .rw[p]at b;have E:=yA (f.o (fun h=>by have:=h.1;simp[wB]at p;dsimp only at this;omega));clear A l f I y K J HN t c p;go_enter func103,ntmps103;go_wp2_with(go_at_call 48;refine wE (b.o _) ?_);go_ret2;exact⟨by rw[E.o];rfl,vB⟩
 all_goals
  clear A;replace y:=yA (fun W=>y.o W (by omega));rw[show wB _ 1 6=true from rfl]at b;go_enter func103,ntmps103;go_upto_region 10 with(go_at_call 48;refine wE (b.o _) ?_)
 all_goals first
  |(go_ret2
    exact⟨by rw[f.o (by rintro⟨_,q1,q2,q3,q4,q5,q6,q7,_⟩;dsimp only at *;simp_all[qU,oU,zU,aIn]<;>omega)];rfl,vB⟩)
  |skip
 all_goals
  have C:u=[]:=by have:(↑u.length != (0:Int))=cA:=by assumption
                  simpa using this
  have E:=yA (l.o ⟨by simp,by simp_all[qU,aIn],by simp_all[oU,aIn],by simp_all[zU],fun _=>C,by dsimp only;omega,by dsimp only;omega,by dsimp only;omega,by rw[C];intro i S;cases S⟩);clear l f C b;go_wp2_with fail;apply aC (y.o _);intro j g;have P:w.1.size+1<=j.1.size:=by have:=g.size;simpa using this
  have G:xA (GP w (F j) _ (H j) L):=⟨((iB.new _ _ _).z g).z (c.o j).2,(c.o j).1.mono P,oB (oB vB g) (c.o j).2⟩
  clear g P;go_upto_region 11 with fail;generalize F j=W at *;generalize H j=v at *;clear t c;have D:=G.o.Q.c5;have B:=DX G.o.O;go_wp2_with(first|(go_at_call 106;apply aC (K.o _);intro R d;replace G:=yA (G.o.z d);clear d)|(go_at_call 29;apply aC (J.o _);intro R d;replace G:=yA (G.o.z d);clear d)|(go_at_call 21;apply aC (HN.o _);intro R d;replace G:=yA (G.o.z d);clear d)|(at_builtin;refine uK _ rfl _ _ rfl (w.1.size+1) _ _ _ rfl G.o.O rfl (by have:=G.o.size;omega) (by first|omega|(simp only[Ka];omega)) ?_;intro v5 w5 M p _ _ _;replace G:=yA (G.o.grow M p);clear M p;have D:=G.o.Q.c5;have B:=DX G.o.O));go_ret2;exact⟨by rw[E.o,I.o];simp[qU,oU,zU,Wa],G.o.N⟩
theorem vf(r:xG)(a:Option Addr)(cap:Nat)(w:World)(hf:jI w a r.P)(hz:cJ r<=8000000)(hnu:aCs r.U)(hbi:aNc r.P)(H:r.K=1):
 Calls prog 103 #[.agg #[.int .i64 r.K,.string r.T,.string r.R,.int .i64 r.U,.slice a r.P.length cap]] w fun e w'=>e=.returned (.tuple #[.string (cw r).1,.bool (cw r).2])/\Below w.1.size w w':=by
 obtain⟨HNO,HOK⟩:=PR r;have S:cJ r=r.T.size+r.R.size+r.P.length+fE r.P:=rfl;generalize cw r=V at *;obtain⟨k,U,me,nu,f⟩:=r;dsimp only at *;subst H;have HBT:=yA (fun W=>vD 1 1 6 W);rw[show wB 1 1 6=true from rfl]at HBT;have HU:=yA (fun W=>lD 1 1 W (by omega) (by omega) (by omega));have HT:=yA (fun W=>rQ U W (by omega));have HC:=yA (fun W=>lD 2 (f.length:Nat) W (by omega) (by omega) (by omega));have z1:=qB 1 1;have z2:=lH U;have z3:=qB 2 (f.length:Nat);have hz1:U.size<=8000000:=by omega
 have hz2:me.size<=8000000:=by omega
 have hz3:fE f<=8000000:=by omega
 have EX:xA (dW ⟨1,U,me,nu,f⟩=pB 1 1++kO U++pB 2 (f.length:Nat)++sE f):=by show _=_;simp[dW,qU,oU,zU,Wa]
 generalize dW ⟨1,U,me,nu,f⟩=RX at *;generalize pB 1 1=N1 at *;generalize kO U=ST at *;generalize pB 2 (f.length:Nat)=SC at *;obtain⟨CV,CN,hcv,hcn⟩:=GO N1 (by omega);have d0:=yA hcn;have HF:=yA hf;have HBI:=yA hbi;clear hcn S hz hnu hf hbi;go_enter func103,ntmps103;go_upto_region 10 with(go_at_call 48;refine wE (HBT.o _) ?_)
 all_goals first
  |(go_ret2
    exact⟨by rw[HNO.o (by rintro⟨_,q1,q2,q3,q4,q5,q6,q7,_⟩;dsimp only at *;simp_all[qU,oU,zU,aIn]<;>omega)];rfl,vB⟩)
  |skip
 have hq:U.size<=255/\me.size<=65535/\f.length<=500:=⟨by omega,by omega,by omega⟩
 have HGO:xA (aIg f->V=(N1++ST++SC++sE f,true)):=fun h=>by rw[<-EX.o];exact HOK.o ⟨by simp,by simp[qU],by simp_all[oU,aIn],by simp_all[zU],fun h=>absurd rfl h,hq.1,hq.2.1,hq.2.2,h⟩
 have HNA:xA (¬aIg f->V=(ByteArray.empty,false)):=fun h=>HNO.o fun hh=>h hh.2.2.2.2.2.2.2.2;obtain⟨q1,q2,q3⟩:=hq;clear HOK HNO HBT EX;go_wp2_with fail;refine(HU.o _).mono ?_;rintro e Y ⟨rfl,B⟩;have hs:w.1.size+1<=Y.1.size:=by have:=B.size;simpa using this
 have G:xA (GP w (CN Y) _ (CV Y) N1):=⟨((iB.new _ _ _).z B).z (d0.o Y).2,(d0.o Y).1.mono hs,oB (oB vB B) (d0.o Y).2⟩
 clear B hs;go_upto_region 11 with fail;generalize CN Y=W at *;generalize CV Y=v at *;clear hcv d0;have x1x:=G.o.Q.c5;have hbk:=DX G.o.O;go_wp2_with(first|(go_at_call 106;refine(HT.o _).mono ?_;rintro e wx ⟨rfl,S⟩;replace G:=yA (G.o.z S);clear S)|(go_at_call 21;refine(HC.o _).mono ?_;rintro e wx ⟨rfl,S⟩;replace G:=yA (G.o.z S);clear S)|(at_builtin;refine uK _ rfl _ _ rfl (w.1.size+1) _ _ _ rfl G.o.O rfl (by have:=G.o.size;omega) (by first|omega|(simp only[Ka];omega)) ?_;intro v5 w5 hr hB _ _ _;replace G:=yA (G.o.grow hr hB);clear hr hB;have x1x:=G.o.Q.c5;have hbk:=DX G.o.O));have hst0:(N1++ST++SC).size<=9000000:=by simp only[Ka];omega
 generalize N1++ST++SC=H0 at *;clear hbk z1 z2 z3 HT HC HU x1x;go_loopw [7,138] (fun out i wr=>∃(k:Nat)(st:ByteArray),k<=f.length/\i=.int .i64 k/\xA (st=H0++sE (f.take k))/\xA (∀j(h:j<f.length),j<k->NY f[j])/\xA (GP w wr #[.int .i64 1,.string U,.string me,.int .i64 nu,.slice a f.length cap] out st)) (fun _ i _=>f.length-(intOf i).toNat)
 case atStart=>exact⟨0,H0,Oa _,rfl,by show _=_;simp[sE],fun j _ h=>absurd h (by omega),G.o⟩
 case round=>
  obtain⟨k,st,hk,rfl,F,y,R⟩:=hrel;have hst:st.size<=60000000:=by
   have H:=YI (f.take k);have h2:=wW f k;rw[F.o,Ka];rw[Hb]at H;omega
  clear G;by_cases M:k<f.length
  .obtain ⟨b,o,a1,q1,rfl,S,c0',c1',p1⟩:=HF.o.at M;have c0:=(R.o.N.cell (p:=⟨b,o+k*2,none⟩) S).trans c0';have c1:=(R.o.N.cell (p:=⟨b,o+k*2+1,none⟩) S).trans c1';have hbs:=rY f k M;have hbe:eH f[k]=f[k].B.length+nD f[k].B:=rfl;have hr1:=HBI.o k M;have hsz:=R.o.size;have HNL:xA (¬NY f[k]->V=(ByteArray.empty,false)):=fun hno=>HNA.o fun h=>hno (h k M);have E2:xA (∀SL S8,SL=pB 1 (f[k].B.length:Nat)->S8=pB 8 f[k].bits->st++SL++jD f[k].B++S8=H0++sE (f.take (k+1))):=fun SL S8 e1 e2=>by rw[tX f k M,F.o,nT,bI,e1,e2];simp only[Wa]
   have Z:xA (NY f[k]->∀j(h:j<f.length),j<k+1->NY f[j]):=fun hh j h hj=>by
    rcases Gc j k with H|H
    .exact y.o j h H
    .obtain rfl:j=k:=by omega
     exact hh
   have HLN:=yA (fun W(h:f[k].B.length<=255)=>lD 1 (f[k].B.length:Nat) W (by omega) (by omega) (by omega));have HB8:=yA (fun W=>lD 8 f[k].bits W (by omega) hr1.1 hr1.2);have zl:=qB 1 (f[k].B.length:Nat);have z8:=qB 8 f[k].bits;have HPL:=yA p1;unfold NY at HNL Z;clear p1 c0' c1' y F hr1;generalize pB 1 (f[k].B.length:Nat)=SL at *;generalize pB 8 f[k].bits=S8 at *;replace E2:=yA (E2.o SL S8 rfl rfl);generalize f[k].B=g at *;generalize f[k].bits=bi at *;have hlb:nD g<=8000000:=by omega
   obtain⟨gv,J,K,L⟩:=R.o.O.lt;have D:xA (u7.ownBlock≠some wr.1.size):=by show _≠_;rw[J];intro e;have:=Lc e;omega
   have G:=yA (R.o.z (yG wr (.cells #[.slice a1 g.length q1,.int .i64 bi] 67)));have X:=yA (iB.new wr #[.slice a1 g.length q1,.int .i64 bi] 67);have BW:=yA R.o.N;clear J K L gv R hbs hbe;by_cases d1:(g.length:Int) > 255
   .have E:=yA (HNL.o fun h=>by omega);go_wp2;go_ret2;exact⟨by rw[E.o];rfl,oB BW.o vB⟩
   go_wp2_with fail;refine(HLN.o _ (by omega)).mono ?_;rintro e W ⟨rfl,hbW⟩;replace G:=yA (G.o.z hbW);replace X:=yA (X.o.z hbW);have z:=zA X.o;clear hbW HLN c0 c1 BW;generalize wr.1.size=BX at *;clear wr;go_wp2_with(at_builtin;refine uK _ rfl _ _ rfl (w.1.size+1) _ st SL rfl G.o.O rfl (by omega) (by omega) ?_;intro v5 w5 hr hB C hat _;have X5:=yA ((C BX z D.o).trans X.o);have N5:=yA (ZP D.o hat z);replace G:=yA (G.o.grow hr hB);clear hr hB C hat;have y0:=iB.cell X5.o 0);have hst1:(st++SL).size<=60000001:=by rw[Ka];omega
   clear X D z hst;generalize st++SL=st1 at *;go_loopw [7,155] (fun out j wr=>∃(m:Nat)(n:ByteArray),m<=g.length/\j=.int .i64 m/\xA (n=st1++jD (g.take m))/\xA (∀i(h:i<g.length),i<m->TM g[i])/\xA (GP w wr #[.int .i64 1,.string U,.string me,.int .i64 nu,.slice (some ⟨b,o,none⟩) f.length cap] out n)/\xA (out.ownBlock≠some BX)/\xA (iB wr BX #[.slice a1 g.length q1,.int .i64 bi] 67)) (fun _ j _=>g.length-(intOf j).toNat)
   case atStart=>exact⟨0,st1,Oa _,rfl,by show _=_;simp[jD],fun i _ h=>absurd h (by omega),G.o,N5.o,X5.o⟩
   case round=>
    obtain⟨m,n,hm,rfl,t,u,s,N2,X2⟩:=hrel;have hst2:n.size<=100000000:=by have H:=kK (g.take m);have h2:=tR g m;rw[Hb]at H;rw[t.o,Ka];omega
    clear G N5 X5 y0;by_cases A:m<g.length
    .obtain ⟨b2,o2,rfl,I,f0',f1'⟩:=HPL.o.at A;have c:=(s.o.N.cell (p:=⟨b2,o2+m*2,none⟩) I).trans f0';have d:=(s.o.N.cell (p:=⟨b2,o2+m*2+1,none⟩) I).trans f1';have hsz2:=s.o.size;have hli:=TN g m A;have HS8:=yA (fun W=>rQ g[m].N W (by omega));have HS16:=yA (fun W=>rO g[m].V W (by omega));have hs3:=lH g[m].N;have hs4:=uF g[m].V;have HNM:xA (¬TM g[m]->V=(ByteArray.empty,false)):=fun h=>HNL.o fun hh=>h (hh.2 m A);have a0:xA (TM g[m]->∀i(h:i<g.length),i<m+1->TM g[i]):=fun ok i h hj=>by
      rcases Gc i m with H|H
      .exact u.o i h H
      .obtain rfl:i=m:=by omega
       exact ok
     have E3:xA (∀U3 U4,U3=kO g[m].N->U4=qF g[m].V->n++(U3++U4)=st1++jD (g.take (m+1))):=fun U3 U4 e1 e2=>by rw[FV g m A,t.o,e1,e2];simp only[Wa]
     unfold TM at HNM a0;clear u t f0' f1';generalize kO g[m].N=U3 at *;generalize qF g[m].V=U4 at *;replace E3:=yA (E3.o U3 U4 rfl rfl);generalize g[m].N=T at *;generalize g[m].V=va at *;have BW:=yA s.o.N;by_cases ok:¬(T.size<=255/\va.size<=65535)
     .have E:=yA (HNM.o ok);have hg:(T.size:Int) > 255\/¬(T.size:Int) > 255/\(va.size:Int) > 65535:=by omega
      rcases hg with g1|⟨g1,g2⟩
      all_goals
       go_wp2;go_ret2;exact⟨by rw[E.o];rfl,oB BW.o vB⟩
     replace a0:=yA (a0.o (by omega));have g1:¬(T.size:Int) > 255:=by omega
     have g2:¬(va.size:Int) > 65535:=by omega
     have m1:¬(9223372036854775807<U3.size+U4.size):=by omega
     have HQ2:xA (U3.size=1+T.size/\U4.size=2+va.size):=⟨by omega,by omega⟩
     obtain⟨gv,J,K,L⟩:=s.o.O.lt;have D:xA (u7.ownBlock≠some wr.1.size):=by show _≠_;rw[J];intro e;have:=Lc e;omega
     have b0:=yA (iB.new wr #[.string T,.string va] 116);have hbn:=yG wr (.cells #[.string T,.string va] 116);replace s:=yA (s.o.z hbn);replace X2:=yA (X2.o.z hbn);clear hs3 hs4 J K L gv ok hbn BW;go_upto_region 31 with fail;generalize wr.alloc (.cells #[.string T,.string va] 116)=W at *;have hBX2:=zA b0.o;have z:=zA X2.o;clear I c d hsz2;generalize wr.1.size=BY at *;clear wr;have HKX:=yA (fun w'(h:Below W.1.size W w')=>(b0.o.z h).c2);obtain⟨x0,x1⟩:=b0.o.c2;go_region_held3 (fun w'=>w'.cell? ⟨BY,0,none⟩=some (.string T)/\w'.cell? ⟨BY,1,none⟩=some (.string va))
      (first
       |go_keep
       |exact hkx5
       |exact HKX.o _ l
       |exact HKX.o _ hc1)
      ((first
        |(go_at_call 106;refine(HS8.o _).mono ?_;rintro e Y ⟨rfl,B⟩;have hc1:Below W.1.size W Y:=(Below.refl _ W).drew.trans B)
        |(go_at_call 29;refine(HS16.o _).mono ?_;rintro e w2 ⟨rfl,I⟩;have l:Below W.1.size W w2:=hc1.trans (I.mono hc1.size))
        |(have q:=l;clear q;refine qP _ (by rfl) _ _ (by rfl) (w.1.size+1) _ n (U3++U4) (by rfl) (by exact s.o.O.z l) (by rfl) (by have:=l.size;omega) (by have:=HQ2.o;rw[Ka];omega) ?_;intro v5 w5 P hB5 C hat5 hle5;have hX5:iB w5 BX #[.slice (some ⟨b2,o2,none⟩) g.length q1,.int .i64 bi] 67:=(C BX (by have:=l.size;omega) N2.o).trans (X2.o.z l);have hN5:v5.ownBlock≠some BX:=ZP N2.o hat5 (by have:=l.size;omega);have hkx5:w5.cell? ⟨BY,0,none⟩=some (.string T)/\w5.cell? ⟨BY,1,none⟩=some (.string va):=iB.c2 ((C BY (by have:=l.size;omega) D.o).trans (b0.o.z l));have hG5:=GP.grow (s.o.z l) P hB5)))
     replace s:=yA hG5;replace X2:=yA hX5;replace N2:=yA hN5;clear P hB5 hG5 C hkx5 hat5 hle5 hX5 hN5 m1 hst2;generalize n++(U3++U4)=st5 at *;go_wp2;exact⟨⟨m+1,st5,by omega,by go_num,E3.o,a0.o,s.o,N2.o,X2.o⟩,by simp[intOf];omega⟩
    .replace E2:xA (n++S8=H0++sE (f.take (k+1))):=by show _=_;rw[<-E2.o,t.o,Ra (by omega)]
     replace Z:=yA (Z.o ⟨by omega,fun i hi=>u.o i hi (by omega)⟩);have y1:=X2.o.cell 1;clear u t;go_wp2_with fail;refine(HB8.o _).mono ?_;rintro e w4 ⟨rfl,hb4⟩;replace s:=yA (s.o.z hb4);have hsz4:=s.o.size;clear hb4 y1 X2 N2;go_wp2_with(at_builtin;refine uK _ rfl _ _ rfl (w.1.size+1) _ n S8 rfl s.o.O rfl (by omega) (by omega) ?_;intro v5 w5 hr hB _ _ _;replace s:=yA (s.o.grow hr hB);clear hr hB);clear hst2;generalize n++S8=st7 at *;exact⟨⟨k+1,st7,by omega,by go_num,E2.o,Z.o,s.o⟩,by simp[intOf];omega⟩
  .have E:xA (V=(st,true)):=by
    have h:=HGO.o fun j hj=>y.o j hj (by omega);show _=_;rw[h,F.o,Ra (by omega)]
   have hbk:=DX R.o.O;have BW:=yA R.o.N;clear y F R;go_wp2;go_ret2;exact⟨by rw[E.o];rfl,BW.o⟩
theorem aDc(r:xG)(a:iC)(b:Nat)(w:World)(g:jI w a r.P)(h:cJ r<=8000000)(d:aCs r.U)(c:aNc r.P):
 qD 103 #[.agg #[.int .i64 r.K,nA r.T,nA r.R,.int .i64 r.U,.slice a r.P.length b]] w (.tuple #[nA (cw r).1,.bool (cw r).2]):=by grind [jI,cJ,aCs,aNc,cw,vf,ve]
theorem sw(r:xG)(a:iC)(b:Nat)(w:World)(i:jI w a r.P)(j:cJ r<=8000000)(f:aCs r.U)(d:aNc r.P):
 qD 54 #[.agg #[.int .i64 r.K,nA r.T,nA r.R,.int .i64 r.U,.slice a r.P.length b]] w (nA (vN r)):=by
 have l:=yA (fun W(m:kB w W)=>aDc r a b W (i.z m) j f d);have n:cw r=(kA,cA)/\vN r=kA\/(cw r).2=true/\((cw r).1.size<=60000/\vN r=(cw r).1\/60000<(cw r).1.size/\vN r=kA):=by
  by_cases h:nS r
  .rw[(PR r).2.o h];refine La ⟨rfl,?_⟩;by_cases g:(dW r).size<=60000
   .exact Ca ⟨g,gq h g⟩
   exact La ⟨by dsimp only;omega,JF (by omega)⟩
  exact Ca ⟨(PR r).1.o h,PN h⟩
 clear i j f d;generalize cw r=V at *;generalize vN r=R at *;obtain⟨V,B⟩:=V;dsimp only at *;rcases n with⟨h,rfl⟩|⟨rfl,⟨h,rfl⟩|⟨h,rfl⟩⟩
 cases h
 all_goals
  go_enter func54,ntmps54;go_wp2_with fail;apply aC (l.o _ vB);intro p c;have k:=yA (oB vB c);clear c;go_wp2;go_ret;exact⟨rfl,k.o⟩
