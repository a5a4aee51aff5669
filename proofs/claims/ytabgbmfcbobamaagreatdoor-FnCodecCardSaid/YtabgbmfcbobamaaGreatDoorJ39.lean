import Derived.Test.YtabgbmfcbobamaaGreatDoorJ32
import Derived.Test.YtabgbmfcbobamaaGreatDoorJ33
import Derived.Test.YtabgbmfcbobamaaGreatDoorJ28
import Derived.Test.YtabgbmfcbobamaaGreatDoorJ34
set_option maxRecDepth 100000
set_option maxHeartbeats 8000000
namespace Go.Proofs.YtabgbmfcbobamaaGreatDoor
open Go.RowKit Tryz
def cz (M:yC) (x:Value) (w:World) (e:Ending) (c:World):Prop:=
 ∃a f b g,e=.returned (.tuple #[.agg (iB a f b g M),x])/\qA c a M.d.fs/\oB c b M.ts/\Below w.heap.size w c
def il (V:yC×Int) (w:World) (e:Ending) (a:World):Prop:=cz V.1 (.int .i64 V.2) w e a
theorem xt {b:Func} {a:Act} {W:World} {R i j:Nat} {cs:Array Value} {T:TypeId} {x:Value} (h:b.results=#[.cell i 82,.tmp j]) (c:a.tmps.getD i undef=.pointer (some ⟨R,0,none⟩)) (d:a.tmps.getD j undef=x) (e:eA W R cs T) (f:C14 cs):(results b a.tmps).run prog W=.ok (.tuple #[.agg cs,x]) W:=by
 have:=run_loadVar_row (P:=prog) W R T 82 cs (0,0) _ e underlying82 rfl (by rw[nq,f.size]);simp at c d;simp[results,h,c,d,asAddr,this]
theorem oR {l:Func} {t:Act} {w W:World} {R i j:Nat} {cs:Array Value} {T:TypeId} {M:yC} {x:Value} {a b:Option Addr} {f g:Nat} (h:l.results=#[.cell i 82,.tmp j]) (o:t.tmps.getD i undef=.pointer (some ⟨R,0,none⟩)) (p:t.tmps.getD j undef=x) (u:t.defers=[]) (c:eA W R cs T) (n:∀(j:Nat) (s:ByteArray),cs[j]?≠some (Value.string s)) (z:w.heap.size<=R) (m:Below w.heap.size w W) (q:qA W a M.d.fs) (r:oB W b M.ts):bodyPost prog l (fun e v=>cz M x w e v) .ret t (W.setRow R (iB a f b g M)):=
 bodyPost_ret (xt h o p c.row (sH _ _ _ _ _)) u ⟨a,f,b,g,rfl,q.store c n (fF _ _ _),r.store c n (fF _ _ _),m.trans ((fF _ _ _).below m.size fun k y e=>by omega)⟩
theorem pU {g:Func} {t:Act} {w W:World} {i j:Nat} {c:vB} {cs:Array Value} {V:yC×Int} {M:yC} {f:Int} {a b:Option Addr} {ca cb:Nat} (h:g.results=#[.cell i 82,.tmp j]) (k:t.tmps.getD i undef=.pointer (some ⟨w.heap.size+1+1,0,none⟩)) (l:t.tmps.getD j undef=.int .i64 f) (o:t.defers=[]) (P:NP w W c cs) (E:V=(M,f)) (m:qA W a M.d.fs) (n:oB W b M.ts):bodyPost prog g (fun e p=>il V w e p) .ret t (W.setRow (w.heap.size+1+1) (iB a ca b cb M)):=by
 subst E;exact oR h k l o P.R (mD _ _ _ _ _) (by omega) P.B m n
theorem aGq {N:yC} {b:Bool} (h:yk N=b):b=false/\N.up=false\/b=false/\N.up=true/\N.deg=true\/b=true/\N.up=true/\N.deg=false:=by
 subst h;unfold yk;cases N.up<;>cases N.deg<;>simp
section
open Go.Maps
theorem jb {w:World} {N:Nat} {x y p q:Value} {t:TypeId} (h:eA w N #[x,y] t):eA ((w.setCell ⟨N,0,none⟩ p).setCell ⟨N,1,none⟩ q) N #[p,q] t:=by
 have:=(h.set 0 p).set 1 q;simpa using this
def ApR (w:World) (c:vB) (now:Int) (a:Option Addr) (n cap N:Nat) (nv:Value) (sv:Value) (X:Nat) (SV:Int×List dA×Bool) (b:World):Prop:=
 ∃a5 c5,qX w b c now a n cap/\eA b N #[nv,sv] 51/\(SV.2.2=true->eA b X #[.int .i64 SV.1,.slice a5 SV.2.1.length c5] 51/\oC b (X+1) a5 SV.2.1)
section
variable {w w5 W:World} {c:vB} {now:Int} {a a5:Option Addr} {n cap N X B c5:Nat} {nv sv:Value} {SV:Int×List dA×Bool} {n5:Int} {t5:List dA} {b5:Bool}
theorem iy (P:qX w w5 c now a n cap) (d:eA w5 N #[nv,sv] 51) (f:eA w5 X #[.int .i64 0,.slice none 0 0] 51) (O:oC w5 B a5 t5) (i:w.heap.size+1+1<X) (h:N≠X) (l:X<B):ApR w c now a n cap N nv sv X (n5,t5,b5) ((w5.setCell ⟨X,0,none⟩ (.int .i64 n5)).setCell ⟨X,1,none⟩ (.slice a5 t5.length c5)):=by
 have b:gA (·=X) w5 ((w5.setCell ⟨X,0,none⟩ (.int .i64 n5)).setCell ⟨X,1,none⟩ (.slice a5 t5.length c5)):=((gA.refl (·=X) w5).setCell (Ca rfl) 0 _).setCell (Ca rfl) 1 _;exact⟨a5,c5,P.turn b i,b.blk d h,fun _=>⟨jb f,(oC.turned O b (fun g j k e=>by omega)).mono (by omega)⟩⟩
theorem ApR.alloc (h:ApR w c now a n cap N nv sv X SV W) (o:Obj):ApR w c now a n cap N nv sv X SV (W.alloc o):=by
 obtain⟨a5,c5,d,f,b⟩:=h;exact⟨a5,c5,d.later (cA _ _),f.alloc _,fun e=>⟨(b e).1.alloc _,(b e).2.later (cA _ _)⟩⟩
end
theorem NM (c:vB) (now:Int) (a:Option Addr) (cap:Nat) (u:List dA) (ar:Option Addr) (capr:Nat) (r:List lC) (w:World) (hf:oB w a u) (hr:gF w ar r) (hbk:u.length+uA u+r.length+pC r<=1048576):
 Calls prog 76 #[iD c,.agg #[.int .i64 now,.slice a u.length cap],.slice ar r.length capr] w fun e D=>fV (lM c now u r) w e D:=by
 have U:u.length+uA u<=1100000:=by omega
 obtain⟨f,d,j,l⟩:=xR U;have HST:=bA (fun W (I:Below w.heap.size w W)=>eE c now a cap u W (hf.later I) d (by omega));have L:=bA (fun(h:gB c now u=true) W (I:Below w.heap.size w W)=>xP c now a cap u W (hf.later I) h U);have T:Hid (lM c now u r=if gB c now u=false then(0,[],false) else if 500<r.length then(now,u,false) else if (qL c now u r).2.2=true then qL c now u r else(now,u,false)):=rfl;have HF:=bA hr;have HBK:=bA hbk;have P:=bA (qX.new (w:=w) (c:=c) (now:=now) (a:=a) (n:=u.length) (cap:=cap));clear hf hr f d j l hbk U;unfold fV;unfold iD at *;generalize lM c now u r=V at *;go_enter func76,ntmps76;go_wp2_with fail;refine(HST.out _ P.out.B).mono ?_;rintro e w1 ⟨rfl,x⟩;replace P:=bA (P.out.later x);clear x HST;obtain⟨Z,x1,x2,x3,x4,x5,y0,y1,Q,R,g0,g1,hz⟩:=P.out.cells;cases hst:gB c now u with
 |false=>
  have E:Hid (V=(0,[],false)):=by show _=_;rw[T.out,Qa hst]
  go_wp2;refine bodyPost_ret (v:=?_) (by simp[results,results76,go_sem,Q,R];rfl) rfl ?_;rw[E.out];refine⟨none,0,rfl,Ca rfl,?_⟩;first
   |exact(P.out.B.setCell (by show w.heap.size<=w.heap.size+1+1;omega) _).setCell (by show w.heap.size<=w.heap.size+1+1;omega) _
   |exact P.out.B
 |true=>
  have HSM:=bA (L.out hst);have G:Hid (V=if 500<r.length then(now,u,false) else if (qL c now u r).2.2=true then qL c now u r else(now,u,false)):=by show _=_;rw[T.out,Oa (by rw[hst];simp)]
  have HS0:=bA hst;clear T L Q R g0 g1;go_wp2_with fail;refine(HSM.out _ P.out.B).mono ?_;rintro e w2 ⟨M,O,rfl,ho2,x⟩;clear Z x1 x2 x3 x4 x5 y0 y1;have O4:=bA ((ho2.mono (B':=w.heap.size+1+1+1) (by omega)).later (cA w2 (.cells #[.int .i64 now,.slice M u.length O] 51)));have P4:=bA ((P.out.later x).later (cA w2 (.cells #[.int .i64 now,.slice M u.length O] 51)));have N4:=bA (eA.new w2 #[.int .i64 now,.slice M u.length O] 51);have hNp:=(P.out.later x).lt;obtain⟨n0,n1⟩:=N4.out.c2;clear x ho2 P;by_cases h5:500<r.length
  ·have E:Hid (V=(now,u,false)):=by show _=_;rw[G.out,Qa h5]
   go_upto_region 5 with fail;generalize w2.alloc (.cells #[.int .i64 now,.slice M u.length O] 51)=w4 at *;obtain⟨-,-,-,-,-,-,-,-,Q,R,g0,g1,hz4⟩:=P4.out.cells;go_wp2;refine bodyPost_ret (v:=?_) (by simp[results,results76,go_sem,Q,R];rfl) rfl ?_;rw[E.out];first
    |exact⟨M,⟨O,rfl⟩,P4.out.done O4.out (by omega)⟩
    |exact⟨M,O,rfl,P4.out.done O4.out (by omega)⟩
  ·have HVF:Hid ((qL c now u r).2.2=false->V=(now,u,false)):=fun h6=>by rw[G.out,Oa h5,Oa (by rw[h6];simp)]
   have HVT:Hid ((qL c now u r).2.2=true->V=qL c now u r):=fun h6=>by rw[G.out,Oa h5,Qa h6]
   go_wp2;generalize w2.alloc (.cells #[.int .i64 now,.slice M u.length O] 51)=w4 at *;generalize w2.heap.size=N at *;clear n0 n1 G;go_loopw [29] (fun i wr=>∃(k:Nat) (t:Int) (s:List dA) (z:Option Addr) (A:Nat),k<=r.length/\i=.int .i64 k/\Hid (qX w wr c now a u.length cap)/\Hid (eA wr N #[.int .i64 t,.slice z s.length A] 51)/\Hid (oC wr (w.heap.size+1+1+1) z s)/\Hid (gB c t s=true)/\Hid (s.length+uA s+2*(r.length-k)+pC (r.drop k)<=1100000)/\Hid (qL c t s (r.drop k)=qL c now u r)) (fun i _=>r.length-(intOf i).toNat)
   case atStart=>exact⟨0,now,u,M,O,La _,rfl,P4.out,N4.out,O4.out,HS0.out,bA (by have:=HBK.out;simp only[Nat.sub_zero,We];omega),rfl⟩
   case round=>
    obtain⟨k,t,s,z,A,hk,rfl,P,C,OB,F,HK,HR⟩:=hrel;clear P4 N4 O4 HS0;by_cases J:k<r.length
    ·obtain⟨b,o,har,hbw,q0,q1,q2,q3⟩:=(HF.out.later P.out.B).at J;subst har;have hkb:=HK.out;have hdr:=UZ r J;have hstb:=MK F.out r[k];have HVQ0:Hid _:=fun h=>HVF.out (by rw[<-HR.out,qg J h]);have K:Hid ((vF c t s r[k]).2.2=true->qL c (vF c t s r[k]).1 (vF c t s r[k]).2.1 (r.drop (k+1))=qL c now u r/\gB c (vF c t s r[k]).1 (vF c t s r[k]).2.1=true):=fun h=>⟨(qf J h).symm.trans HR.out,cf F.out h⟩
     have HBN:Hid ((vF c t s r[k]).2.1.length+uA (vF c t s r[k]).2.1+2*(r.length-(k+1))+pC (r.drop (k+1))<=1100000):=by show _<=_;omega
     have S:Hid (vF c t s r[k]=if r[k].kind=1 then(t,(jT c t s r[k].n9 r[k].text).1,decide ((jT c t s r[k].n9 r[k].text).2=1) ||decide ((jT c t s r[k].n9 r[k].text).2=2)) else if r[k].kind=2 then rR c.w t s r[k].num else if r[k].kind=3 then(t,(uZ s r[k].n9 r[k].text r[k].num).1,(uZ s r[k].n9 r[k].text r[k].num).2) else(t,s,false)):=rfl;have HAD:Hid (∀W,Below wr.heap.size wr W->Calls prog 118 #[.agg #[.int .i64 c.w,.int .i64 c.tl,.int .i64 c.ml,.int .i64 c.sh,.int .i64 c.ha,.int .i64 c.sg],.agg #[.int .i64 t,.slice z s.length A],.string r[k].n9,.string r[k].text] W fun e D=>∃a cap,e=.returned (.tuple #[.agg #[.int .i64 t,.slice a (jT c t s r[k].n9 r[k].text).1.length cap],.int .i64 ((jT c t s r[k].n9 r[k].text).2:Nat)])/\oC D W.heap.size a (jT c t s r[k].n9 r[k].text).1/\Below W.heap.size W D):=fun W I=>by
      have:=oY c t z A s r[k].n9 r[k].text W (OB.out.tens.later I) (by omega) (by omega) (by omega) F.out;rw[ip F.out]at this;exact this
     have HTK:Hid (∀W,Below wr.heap.size wr W->Calls prog 85 #[.agg #[.int .i64 c.w,.int .i64 c.tl,.int .i64 c.ml,.int .i64 c.sh,.int .i64 c.ha,.int .i64 c.sg],.agg #[.int .i64 t,.slice z s.length A],.int .i64 r[k].num] W fun e D=>∃a cap,e=.returned (.tuple #[.agg #[.int .i64 (rR c.w t s r[k].num).1,.slice a (rR c.w t s r[k].num).2.1.length cap],.bool (rR c.w t s r[k].num).2.2])/\oC D W.heap.size a (rR c.w t s r[k].num).2.1/\Below W.heap.size W D):=fun W I=>by
      have:=CG c t z A s r[k].num W (OB.out.tens.later I) (by omega) F.out;rw[ye F.out]at this;exact this
     have HSE:Hid (∀W,Below wr.heap.size wr W->Calls prog 86 #[.agg #[.int .i64 c.w,.int .i64 c.tl,.int .i64 c.ml,.int .i64 c.sh,.int .i64 c.ha,.int .i64 c.sg],.agg #[.int .i64 t,.slice z s.length A],.string r[k].n9,.string r[k].text,.int .i64 r[k].num] W fun e D=>∃a cap,e=.returned (.tuple #[.agg #[.int .i64 t,.slice a (uZ s r[k].n9 r[k].text r[k].num).1.length cap],.bool (uZ s r[k].n9 r[k].text r[k].num).2])/\oC D W.heap.size a (uZ s r[k].n9 r[k].text r[k].num).1/\Below W.heap.size W D):=fun W I=>by
      have:=aT c t z A s r[k].n9 r[k].text r[k].num W (OB.out.tens.later I) (by omega) (by omega) (by omega) F.out;rw[aBw F.out]at this;exact this
     clear hkb hdr hstb F HK HR;have hNr:=aA C.out;have hRr:=P.out.lt;have y:Hid (Below wr.heap.size wr ((wr.alloc (.cells #[.int .i64 r[k].kind,.string r[k].n9,.string r[k].text,.int .i64 r[k].num] 31)).alloc (.cells #[.int .i64 0,.slice none 0 0] 51))):=nA (cA _ _) (cA _ _);have XB:Hid _:=bA (by have:=eA.new (wr.alloc (.cells #[.int .i64 r[k].kind,.string r[k].n9,.string r[k].text,.int .i64 r[k].num] 31)) #[.int .i64 0,.slice none 0 0] 51;simpa using this);have UB:=bA ((eA.new wr #[.int .i64 r[k].kind,.string r[k].n9,.string r[k].text,.int .i64 r[k].num] 31).alloc (.cells #[.int .i64 0,.slice none 0 0] 51));generalize vF c t s r[k]=SV at *;go_upto_region 11 with fail;clear q0 q1 q2 q3;generalize ((wr.alloc (.cells #[.int .i64 r[k].kind,.string r[k].n9,.string r[k].text,.int .i64 r[k].num] 31)).alloc (.cells #[.int .i64 0,.slice none 0 0] 51))=wb at *;replace P:=bA (P.out.later y.out);replace C:=bA (C.out.later y.out);have hwb:=aA XB.out;clear OB;obtain⟨Z,x1,x2,x3,x4,x5,y0,y1,-,-,-,-,-⟩:=P.out.cells;obtain⟨n0,n1⟩:=C.out.c2;obtain⟨q0,q1,q2,q3⟩:=UB.out.c4;generalize r[k].kind=H at *;generalize r[k].n9=TE at *;generalize r[k].text=TX at *;generalize r[k].num=NU at *;go_upto_block 2 with fail;go_cut [11,14] (fun ok _ wx=>ok=.bool SV.2.2/\ApR w c now a u.length cap N (.int .i64 t) (.slice z s.length A) (wr.heap.size+1) SV wx)
     case first=>
      generalize jT c t s TE TX=R1 at *;generalize rR c.w t s NU=R2 at *;generalize uZ s TE TX NU=R3 at *;obtain⟨t5,v5⟩:=R1;obtain⟨n6,m,b6⟩:=R2;obtain⟨p,b7⟩:=R3;have hks:H=1/\(((v5:Int)==1)=true/\SV=(t,t5,true)\/((v5:Int)==1)=false/\(((v5:Int)==2)=true/\SV=(t,t5,true)\/((v5:Int)==2)=false/\SV=(t,t5,false)))\/(H==1)=false/\(H=2/\SV=(n6,m,b6)\/(H==2)=false/\(H=3/\SV=(t,p,b7)\/(H==3)=false/\SV=(t,s,false))):=by
       rw[S.out];by_cases k1:H=1
       ·refine Ca ⟨k1,?_⟩;rw[Qa k1];by_cases v1:v5=1
        ·exact Ca ⟨by simp[v1],by simp[v1]⟩
        ·refine Ja ⟨by simp;omega,?_⟩;by_cases v2:v5=2
         ·exact Ca ⟨by simp[v2],by simp[v2]⟩
         ·exact Ja ⟨by simp;omega,by simp[v1,v2]⟩
       ·refine Ja ⟨by simpa using k1,?_⟩;rw[Oa k1];by_cases k2:H=2
        ·exact Ca ⟨k2,by rw[Qa k2]⟩
        ·refine Ja ⟨by simpa using k2,?_⟩;rw[Oa k2];by_cases k3:H=3
         ·exact Ca ⟨k3,by rw[Qa k3]⟩
         ·exact Ja ⟨by simpa using k3,by rw[Oa k3]⟩
      clear S;rcases hks with⟨rfl,⟨h1,rfl⟩|⟨h1,⟨h2,rfl⟩|⟨h2,rfl⟩⟩⟩|⟨k1,⟨rfl,rfl⟩|⟨k2,⟨rfl,rfl⟩|⟨k3,rfl⟩⟩⟩
      all_goals
       go_wp2_with((first
        |(go_at_call 118;refine(HAD.out _ y.out).mono ?_)
        |(go_at_call 85;refine(HTK.out _ y.out).mono ?_)
        |(go_at_call 86;refine(HSE.out _ y.out).mono ?_));rintro e w5 ⟨a5,c5,rfl,ho,x⟩;have O5:=bA ho;have P5:=bA (P.out.later x);have N5:=bA (C.out.later x);have X5:=bA (XB.out.later x);have hx5:=aA X5.out;clear ho x q0 q1 q2 q3 n0 n1 Z x1 x2 x3 x4 x5 y0 y1;obtain⟨Z,x1⟩:=X5.out.c2;have fx:=X5.out.free)
       go_meet;first
        |(have q:=k3;exact⟨rfl,none,0,P.out,C.out,fun e=>by cases e⟩)
        |exact⟨rfl,iy P5.out N5.out X5.out O5.out (by omega) (by omega) hwb⟩
        |exact⟨rfl,(iy P5.out N5.out X5.out O5.out (by omega) (by omega) hwb).alloc _⟩
     clear HAD HTK HSE S UB XB y P C Z x1 x2 x3 x4 x5 y0 y1 n0 n1 q0 q1 q2 q3;obtain⟨rfl,a5,c5,hP,hN,hX⟩:=hcut;rename World=>w6;have P:=bA hP;have C:=bA hN;obtain⟨Z,x1,x2,x3,x4,x5,y0,y1,-,-,-,-,hz⟩:=hP.cells;obtain⟨n5,t5,b5⟩:=SV;cases b5 with
     |false=>
      have E:=bA (HVQ0.out rfl);clear hX hN hP;go_wp2_with(go_at_call 117;refine(HSM.out _ P.out.B).mono ?_;rintro e w9 ⟨ra,rc,rfl,ho,x⟩;have P9:=bA (P.out.later x);have HO9:=bA ho;clear ho x Z x1 x2 x3 x4 x5 y0 y1;obtain⟨-,-,-,-,-,-,-,-,Q,R,g0,g1,hz9⟩:=P9.out.cells);refine bodyPost_ret (v:=?_) (by simp[results,results76,go_sem,Q,R];rfl) rfl ?_;rw[E.out];first
       |exact⟨ra,⟨rc,rfl⟩,P9.out.done HO9.out hz⟩
       |exact⟨ra,rc,rfl,P9.out.done HO9.out hz⟩
     |true=>
      have HX:=bA (hX rfl);obtain⟨m0,m1⟩:=HX.out.1.c2;obtain⟨n0,n1⟩:=hN.c2;have fn:=hN.free;clear hX hN hP;go_wp2;have hT:gA (·=N) w6 ((w6.setCell ⟨N,0,none⟩ (.int .i64 n5)).setCell ⟨N,1,none⟩ (.slice a5 t5.length c5)):=((gA.refl (·=N) w6).setCell (Ca rfl) 0 _).setCell (Ca rfl) 1 _;exact⟨⟨k+1,n5,t5,a5,c5,by omega,by go_num,bA (P.out.turn hT hNp),bA (jb C.out),bA ((oC.turned HX.out.2 hT (fun g h1 h2 e=>by omega)).mono (by omega)),(K.out rfl).2,HBN.out,(K.out rfl).1⟩,by simp[intOf];omega⟩
    ·have Y:qL c now u r=(t,s,true):=by rw[<-HR.out,Ff (by omega)];rfl
     have E:Hid (V=(t,s,true)):=by show _=_;rw[HVT.out (by rw[Y]),Y]
     have hkl:¬((k:Int)<r.length):=by omega
     obtain⟨n0,n1⟩:=C.out.c2;obtain⟨-,-,-,-,-,-,-,-,Q,R,g0,g1,hz⟩:=P.out.cells;clear Y;go_wp2;refine bodyPost_ret (v:=?_) (by simp[results,results76,go_sem,Q,R];rfl) rfl ?_;rw[E.out];first
      |exact⟨z,⟨A,rfl⟩,P.out.done OB.out (by omega)⟩
      |exact⟨z,A,rfl,P.out.done OB.out (by omega)⟩
end
theorem cY (t:ByteArray):∀(a:List kA) (k:Nat),zC t a k = -1\/∃i,i<a.length/\zC t a k=(k+i:Nat)
 |[],_=>Ca rfl
 |f::r,k=>by
  rw[zC];split
  ·exact Ja ⟨0,by simp,by simp⟩
  ·rcases cY t r (k+1) with h|⟨i,b,h⟩
   ·exact Ca h
   ·exact Ja ⟨i+1,by simp;omega,by rw[h];omega⟩
def aK (a:List kA) (b c:Bool) (t:ByteArray):ByteArray×Bool:=
 if b=true/\c=false then(match (if 0<=zC t a 0 then a[(zC t a 0).toNat]? else none) with
  |some f=>(f.data,true)
  |none=>(ByteArray.empty,false)) else(ByteArray.empty,false)
theorem VK (a:Option Addr) (j:Nat) (g:List kA) (c k l m:Int) (q:Bool) (t:ByteArray) (w:World) (hf:qA w a g) (hs:eV g) (r:g.length<=maxLen) (s:xB g<=1000000000):
 Calls prog 72 #[.agg #[.slice a g.length j,.int .i64 c,.int .i64 k,.int .i64 l,.int .i64 m,.bool q],.string t] w fun e R=>
  e=.returned (.tuple #[.string (aK g (bH g c k l m) q t).1,.bool (aK g (bH g c k l m) q t).2])/\Below w.heap.size w R:=by
 have n:Hid (qA w a g):=hf;have J:Hid (eV g):=hs;have G:Hid _:=r;have K:Hid _:=s;unfold maxLen at r;clear hf hs s;obtain⟨L,v⟩:∃L,bH g c k l m=L:=⟨_,rfl⟩
 have I:Hid _:=v;rw[v];clear v;obtain⟨z,P⟩:∃z,zC t g 0=z:=⟨_,rfl⟩
 have H:Hid _:=P;have x:=fun R h=>xT a j g c k l m q t R h G.out;rw[P]at x;have p:Hid _:=x;clear x P;by_cases N:L=false
 ·subst N;have E:Hid (aK g false q t=(ByteArray.empty,false)):=by show _=_;simp[aK]
  go_enter func72,ntmps72;go_wp2_with fail;refine(p.out _ (n.out.later (cA _ _))).mono ?_;rintro e S ⟨rfl,d⟩;obtain⟨y,A,B,C,D,F⟩:=(qO.new w (.slice a g.length j) (.int .i64 c) (.int .i64 k) (.int .i64 l) (.int .i64 m) (.bool q) 78).later d;go_wp2_with fail;refine(fJ I.out _ ((n.out.later (cA _ _)).later d) J.out G.out K.out).mono ?_;rintro e T ⟨rfl,f⟩;obtain⟨U,V,W,X,Y,Z⟩:=((qO.new w (.slice a g.length j) (.int .i64 c) (.int .i64 k) (.int .i64 l) (.int .i64 m) (.bool q) 78).later d).later f;have u:Hid _:=nA (nA (cA _ _) d) f;clear y A B C D F d f;go_wp2;go_ret2;exact⟨by rw[E.out];rfl,u.out⟩
 obtain rfl:L=true:=by simpa using N
 clear N;by_cases O:q=true
 ·subst O;have E:Hid (aK g true true t=(ByteArray.empty,false)):=by show _=_;simp[aK]
  go_enter func72,ntmps72;go_wp2_with fail;refine(p.out _ (n.out.later (cA _ _))).mono ?_;rintro e S ⟨rfl,d⟩;obtain⟨y,A,B,C,D,F⟩:=(qO.new w (.slice a g.length j) (.int .i64 c) (.int .i64 k) (.int .i64 l) (.int .i64 m) (.bool true) 78).later d;go_wp2_with fail;refine(fJ I.out _ ((n.out.later (cA _ _)).later d) J.out G.out K.out).mono ?_;rintro e T ⟨rfl,f⟩;obtain⟨U,V,W,X,Y,Z⟩:=((qO.new w (.slice a g.length j) (.int .i64 c) (.int .i64 k) (.int .i64 l) (.int .i64 m) (.bool true) 78).later d).later f;have u:Hid _:=nA (nA (cA _ _) d) f;clear y A B C D F d f;go_wp2;go_ret2;exact⟨by rw[E.out];rfl,u.out⟩
 obtain rfl:q=false:=by simpa using O
 clear O;by_cases h3:z<0
 ·have E:Hid (aK g true false t=(ByteArray.empty,false)):=by
   show _=_;have e:¬0<=zC t g 0:=by rw[H.out];omega
   simp[aK,e]
  go_enter func72,ntmps72;go_wp2_with fail;refine(p.out _ (n.out.later (cA _ _))).mono ?_;rintro e S ⟨rfl,d⟩;obtain⟨y,A,B,C,D,F⟩:=(qO.new w (.slice a g.length j) (.int .i64 c) (.int .i64 k) (.int .i64 l) (.int .i64 m) (.bool false) 78).later d;go_wp2_with fail;refine(fJ I.out _ ((n.out.later (cA _ _)).later d) J.out G.out K.out).mono ?_;rintro e T ⟨rfl,f⟩;obtain⟨U,V,W,X,Y,Z⟩:=((qO.new w (.slice a g.length j) (.int .i64 c) (.int .i64 k) (.int .i64 l) (.int .i64 m) (.bool false) 78).later d).later f;have u:Hid _:=nA (nA (cA _ _) d) f;clear y A B C D F d f;go_wp2;go_ret2;exact⟨by rw[E.out];rfl,u.out⟩
 obtain⟨i,M,Q⟩:∃i,i<g.length/\z=(i:Nat):=by
  rcases cY t g 0 with h|⟨i,M,h⟩
  ·rw[H.out]at h;omega
  ·exact⟨i,M,by rw[<-H.out,h];simp⟩
 subst Q;have E:Hid (aK g true false t=(g[i].data,true)):=by
  show _=_;have e:0<=zC t g 0:=by rw[H.out];omega
  have e2:(zC t g 0).toNat=i:=by rw[H.out];simp
  simp[aK,e,e2,Va M]
 have h4:=h3;clear h3;go_enter func72,ntmps72;go_wp2_with fail;refine(p.out _ (n.out.later (cA _ _))).mono ?_;rintro e S ⟨rfl,d⟩;obtain⟨y,A,B,C,D,F⟩:=(qO.new w (.slice a g.length j) (.int .i64 c) (.int .i64 k) (.int .i64 l) (.int .i64 m) (.bool false) 78).later d;go_wp2_with fail;refine(fJ I.out _ ((n.out.later (cA _ _)).later d) J.out G.out K.out).mono ?_;rintro e T ⟨rfl,f⟩;obtain⟨U,V,W,X,Y,Z⟩:=((qO.new w (.slice a g.length j) (.int .i64 c) (.int .i64 k) (.int .i64 l) (.int .i64 m) (.bool false) 78).later d).later f;have u:Hid _:=nA (nA (cA _ _) d) f;obtain⟨b,o,rfl,hb,c0,c1,c2⟩:=(((n.out.later (cA _ _)).later d).later f).at M;clear y A B C D F d f;go_wp2;go_ret2;exact⟨by rw[E.out];rfl,u.out⟩
theorem qt {X a:ByteArray} {A B:List UInt8} {c q:UInt8} (h:(X++fA 4 (bG X:Nat)).data.toList=A++c::B) (e:(a++fA 4 (bG a:Nat)).data.toList=A++q::B):c=q:=by
 have u:∀x y:ByteArray,(x++y).data.toList=x.data.toList++y.data.toList:=fun x y=>by rw[Pg,Ve]
 have D:∀v:Int,(fA 4 v).data.toList.length=4:=fun v=>by rw[Ue];exact iA 4 v
 rw[u]at h e;have s:=Fd List.length h;have t:=Fd List.length e;simp only[Za,Jb,D]at s t;by_cases G:A.length<X.data.toList.length
 ·obtain⟨b,f,rfl,r⟩:∃b f,B=b++f/\b.length=X.data.toList.length-A.length-1:=⟨B.take (X.data.toList.length-A.length-1),B.drop (X.data.toList.length-A.length-1),(Ya _ _).symm,by rw[Hb];omega⟩
  have w:∀d:UInt8,A++d::(b++f)=(A++d::b)++f:=fun d=>by simp
  rw[w]at h e;obtain⟨k,n⟩:=Ug h (by rw[Za,Jb];omega);obtain⟨o,g⟩:=Ug e (by rw[Za,Jb];omega);have j:bG X=bG a:=by
   have z:=cI 4 (bG X) (by have:=IL X;omega);have C:=cI 4 (bG a) (by have:=IL a;omega);rw[<-z,<-C,n,g]
  refine md (l:=A) (m:=b) ?_;have E:=vW X.data.toList;have F:=vW a.data.toList;unfold bG at j;rw[<-k,<-o];omega
 ·obtain⟨i,p,rfl,r⟩:∃i p,A=i++p/\i.length=X.data.toList.length:=⟨A.take X.data.toList.length,A.drop X.data.toList.length,(Ya _ _).symm,by rw[Hb];omega⟩
  rw[Ld]at h e;rw[Za]at s t;obtain⟨k,n⟩:=Ug h r.symm;obtain⟨o,g⟩:=Ug e (by omega);have j:bG X=bG a:=by unfold bG;rw[k,o]
  rw[<-j,n]at g;have:=List.append_cancel_left g;simp only[List.cons.injEq]at this;exact this.1
theorem mj {a d:Int} {j:List dA} {t:ByteArray} {A B:List UInt8} {c g:UInt8} (k:bT a j) (i:(xE a d j).data.toList=A++c::B) (b:t.data.toList=A++g::B) (l:c≠g) (f:vB):vR f t=(0,0,[],false):=by
 refine jh fun e=>l ?_;rw[nR k]at i;by_cases h:bT (jB (MU t).1) (aF t).1
 ·rw[nR h]at e;exact qt i (by rw[e];exact b)
 ·rw[lX h]at e;rw[<-e]at b;exact absurd (Fd List.length b) (by simp)
