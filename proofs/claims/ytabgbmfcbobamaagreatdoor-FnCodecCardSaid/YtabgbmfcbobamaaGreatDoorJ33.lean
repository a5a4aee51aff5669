import Derived.Test.YtabgbmfcbobamaaGreatDoorJ30
import Derived.Test.YtabgbmfcbobamaaGreatDoorJ29
set_option maxRecDepth 100000
set_option maxHeartbeats 16000000
namespace Go.Proofs.YtabgbmfcbobamaaGreatDoor
open Go.RowKit Tryz
theorem aBc (t:lA) (b:Bool) (a:List lA) (c:jC (·.s) a):(ab t b a).length<=a.length+1:=by
 cases b with
 |true=>
  rw[iR];have:(dI (·.s) t.s a).length<=a.length:=Gc _ _;omega
 |false=>rw[ad c];exact BE _
theorem aBd (t p:lA) (l:List lA) (b:Bool):b=true/\(p.s.toList==t.s.toList)=true/\tG t (l,b) p=(l,true)\/b=true/\(p.s.toList==t.s.toList)=false/\tG t (l,b) p=(l++[p],true)\/
 b=false/\(p.s.toList==t.s.toList)=false/\(t.s.toList==p.s.toList)=false/\Op.bytesLess t.s.toList p.s.toList=false/\tG t (l,b) p=(l++[p],false)\/b=false/\(p.s.toList==t.s.toList)=false/\Op.bytesLess t.s.toList p.s.toList=true/\tG t (l,b) p=(l++[t]++[p],true)\/
 b=false/\(p.s.toList==t.s.toList)=true/\(t.s.toList==p.s.toList)=true/\Op.bytesLess t.s.toList p.s.toList=false/\tG t (l,b) p=(l++[t],true):=by
 cases b with
 |true=>cases h:(p.s.toList==t.s.toList)<;>simp[tG,h]
 |false=>
  by_cases d:wH p.s t.s=true
  ·have a:=dD (yK d);exact Ja (Ja (Ca ⟨rfl,a,dD (yK d).symm,tW d,by simp[tG,d,a]⟩))
  ·have c:wH p.s t.s=false:=by simpa using d
   by_cases e:wH t.s p.s=true
   ·have a:=dD (yK e).symm;exact Ja (Ja (Ja (Ca ⟨rfl,a,e,by simp[tG,c,a]⟩)))
   ·have g:=Decidable.byContradiction fun f=>e (jS c f);have a:=(wC _ _).2 g;exact Ja (Ja (Ja (Ja ⟨rfl,a,(wC _ _).2 g.symm,by simpa[wH]using e,by simp[tG,c,a]⟩)))
theorem km {w g W:World} {c:vB} {i:Int} {a:Option Addr} {n h X:Nat} {t u B:Value} {A k b:Option Addr} {s f d:Nat} {z ss j:List lA} (x:j.length=d) (P:qX w g c i a n h) (r:eA g X #[t,u,B,.slice k ss.length s] 100) (v:w.heap.size+1+1<X) (l:∀W,gA (·=X) g W->yA W A z/\yA W k ss) (o:Below g.heap.size g W) (p:W.ownsRow g.heap.size 107 2 (.slice b d f) d (flatK j)):
 eA (W.setCell ⟨X,2,none⟩ (.slice b d f)) X #[t,u,.slice b d f,.slice k ss.length s] 100/\yA (W.setCell ⟨X,2,none⟩ (.slice b d f)) b j/\yA (W.setCell ⟨X,2,none⟩ (.slice b d f)) k ss/\qX w (W.setCell ⟨X,2,none⟩ (.slice b d f)) c i a n h:=by
 subst x;have m:gA (·=X) W (W.setCell ⟨X,2,none⟩ (.slice b j.length f)):=(gA.refl (·=X) W).setCell (Ca rfl) 2 _;have C:=aA r;exact⟨by have:=(r.later o).set 2 (.slice b j.length f);simpa using this,(vC (m.row p (fun q y e=>by have:=(p.lt q y).1;omega))).pairs,(l _ ((gA.of o).trans' m)).2,(P.later o).turn m v⟩
theorem IG {c:vB} {l:Int} {a:Option Addr} {A:Nat} {Z:List dA} {G h:ByteArray} {j:Int} {w:World} {m:dA} {V:Int×List dA×Bool} (H:Hid (SC w c l a A Z G m)) (hm:h.size<=1100000) (hmt:h.toList.isEmpty=true\/h.toList.isEmpty=false/\cE h=true) (hlb:xA j (-1) 1000000=true)
 (HV:Hid (V=if 10000<(uC c.w l (bB (·.name) (qH m h j) Z)).length then(l,Z,false) else(l,uC c.w l (bB (·.name) (qH m h j) Z),true))):
 Calls prog 86 #[iD c,.agg #[.int .i64 l,.slice a Z.length A],.string G,.string h,.int .i64 j] w fun e w'=>fV V w e w':=by
 have HMN:=bA (fun W=>aJ h W (by omega));have P:=bA (qX.new (w:=w) (c:=c) (now:=l) (a:=a) (n:=Z.length) (cap:=A));obtain⟨hml,hsl⟩:=H.out.len;obtain⟨hn0,hn1⟩:=H.out.now0;unfold fV iD;go_enter func86,ntmps86;go_wp2_with fail;refine(H.out.ok _ P.out.B).mono ?_;rintro e I ⟨rfl,hb⟩;replace P:=bA (P.out.later hb);clear hb;go_upto_region 3 with fail;go_cut [39] (fun b wx=>b=.bool false/\qX w wx c l a Z.length A)
 case first=>
  rcases hmt with k2|⟨k2,Y⟩
  all_goals
   go_wp2_with(first
    |(go_at_call 81;refine(H.out.nm _).mono ?_;rintro e w' ⟨rfl,hw⟩;subst hw)
    |(go_at_call 25;refine(nC hlb _).mono ?_;rintro e w' ⟨rfl,hw⟩;subst hw)
    |(go_at_call 120;refine(HMN.out _).mono ?_;rintro e w5 ⟨rfl,hb⟩;replace P:=bA (P.out.later hb);clear hb))
   go_meet;exact⟨by simp,P.out⟩
 clear P HMN;obtain⟨rfl,hP⟩:=hcut;rename World=>I;have P:=bA hP;have J:=bA hP.kin;obtain⟨vy0,vy1,vx0⟩:=hP.kin I (Below.refl _ _);have hsv:=hP.lt;clear hP;go_upto_region 5 with fail;go_cut [12] (fun p wx=>∃X,p=.pointer (some ⟨X,0,none⟩)/\KX I X m wx)
 case first=>
  go_region_held3 (fun w'=>w'.cell? ⟨w.heap.size+1,0,none⟩=some (.int .i64 l)/\w'.cell? ⟨w.heap.size+1,1,none⟩=some (.slice a Z.length A)/\w'.cell? ⟨w.heap.size,0,none⟩=some (.int .i64 c.w))
   (first|go_keep|with_reducible exact J.out _ (VD R (Ka _))|with_reducible exact J.out _ (VD R Y.size)|with_reducible exact J.out _ R|with_reducible exact J.out _ Y|with_reducible exact J.out _ (nA Y (cA _ _))|with_reducible exact J.out _ ((cA _ _).drew)|with_reducible exact J.out _ (nA R (cA _ _)))
   (first
    |(go_at_call 89;refine(H.out.te _ (by with_reducible exact P.out.B.drew)).mono ?_;rintro e t ⟨⟨a1,c1,a2,c2,rfl,p1,p2⟩,C⟩;have Y:Below I.heap.size I t:=(by with_reducible exact nA (Below.refl _ _).drew C);have c3:=J.out _ Y)
    |(go_at_call 89;refine(H.out.te _ (by with_reducible exact(nA P.out.B (cA _ _)).drew)).mono ?_;rintro e t ⟨⟨a1,c1,a2,c2,rfl,p1,p2⟩,C⟩;have Y:Below I.heap.size I t:=(by with_reducible exact nA ((cA _ _).drew) C);have c3:=J.out _ Y;have T:eA t I.heap.size #[.string ⟨#[]⟩,.int .i64 0,.slice none 0 0,.slice none 0 0] 100:=OL C)
    |(have q:=T;clear q;go_at_call 128;refine(H.out.kp _ a1 a2 c1 c2 (by with_reducible exact p1) (by with_reducible exact p2)).mono ?_;rintro e w4 ⟨M,q1,e1,q2,e2,rfl,hM,h1,h1M,h2,hM4,D⟩;have R:Below I.heap.size I w4:=(by with_reducible exact nA Y D);have c4:=J.out _ R;have y:=bA (T.later D);obtain⟨s0,s1,s2,s3⟩:=y.out.c4;have f:=y.out.free)
    |((fail_if_success (have q:=T));go_at_call 128;refine(H.out.kp _ a1 a2 c1 c2 (by with_reducible exact p1) (by with_reducible exact p2)).mono ?_;rintro e w4 ⟨M,q1,e1,q2,e2,rfl,hM,h1,h1M,h2,hM4,D⟩;have R:Below I.heap.size I w4:=(by with_reducible exact nA Y D);have c4:=J.out _ R)
    |(go_at_call 128;refine(H.out.kp _ a1 a2 c1 c2 (by with_reducible exact p1.later (cA _ _)) (by with_reducible exact p2.later (cA _ _))).mono ?_;rintro e w4 ⟨M,q1,e1,q2,e2,rfl,hM,h1,h1M,h2,hM4,D⟩;have R:Below I.heap.size I w4:=(by with_reducible exact nA (nA Y (cA _ _)) D);have c4:=J.out _ R;have y:Hid (eA w4 t.heap.size #[.string ⟨#[]⟩,.int .i64 0,.slice none 0 0,.slice none 0 0] 100):=bA ((eA.new t _ _).later D);obtain⟨s0,s1,s2,s3⟩:=y.out.c4;have f:=y.out.free))
  all_goals(go_wp2_with fail;go_meet)
  all_goals first
   |with_reducible exact⟨_,rfl,aEm h1 (vC h2) R⟩
   |exact⟨_,rfl,ve h1 (vC h2) (by have:=aA T;omega) hM (Ka _) y.out R⟩
   |exact⟨_,rfl,ve h1 (vC h2) (by simp) hM Y.size y.out R⟩
 obtain⟨X,rfl,q1,e1,q2,e2,N,hPI,hXw,C⟩:=hcut;rename World=>t;replace P:=bA (P.out.later C);have Q:=bA N;have K:=bA hPI;have T:=aA N;have hXP:w.heap.size+1+1<X:=by omega
 clear J vy0 vy1 vx0 N hPI C;obtain⟨-,-,g2,-⟩:=Q.out.c4;go_upto_if 52 with fail;go_cut [13,14] (fun _ _ wx=>∃L ms n1 p1 d1,List.length ms=n1/\qH m h j=⟨m.name,L,ms,m.s9⟩/\ms.length<=1100001/\eA wx X #[.string m.name,.int .i64 L,.slice p1 n1 d1,.slice q2 m.s9.length e2] 100/\yA wx p1 ms/\yA wx q2 m.s9/\qX w wx c l a Z.length A)
 case first=>
  cases hme:h.toList.isEmpty with
  |true=>
   have HLM:=bA hme;obtain⟨-,g1,-,-⟩:=Q.out.c4;have g:=Q.out.free;go_wp2;go_meet;have hT:gA (·=X) t (t.setCell ⟨X,1,none⟩ (.int .i64 j)):=(gA.refl (·=X) t).setCell (Ca rfl) 1 _;exact⟨j,m.m9,_,q1,e1,rfl,by unfold qH;rw[Qa HLM.out],by omega,by have:=Q.out.set 1 (.int .i64 j);simpa using this,(K.out _ hT).1,(K.out _ hT).2,P.out.turn hT hXP⟩
  |false=>
   have HLA:=bA (vp (l9:=j) H.out.rm hme);have HLE:=bA (fun b=>aBc ⟨h,j⟩ b _ H.out.rm);have L4:Hid ((t.alloc (.cells #[] 107)).ownsRow t.heap.size 107 2 (.slice (some ⟨t.heap.size,0,none⟩) 0 0) 0 []):=bA (World.ownsRow_made t #[] 0 (Ka _) (by simp[maxLen]) (by simp));have B4:=bA (cA t (.cells #[] 107));obtain⟨-,-,g4,-⟩:=(Q.out.alloc (.cells #[] 107)).c4;have HP1:=bA (K.out _ (gA.refl _ _)).1;go_upto_region 10 with fail;generalize (t.alloc (.cells #[] 107))=w4 at *;generalize decide (j<0)=b0 at *;go_wp2;clear g4;go_loopw [13,14,16,61] (fun al pl _ i wr=>∃(k:Nat) (va:Option Addr) (vc:Nat) (r:List lA),k<=m.m9.length/\i=.int .i64 k/\al=.slice va r.length vc/\pl=.bool (vU ⟨h,j⟩ b0 (m.m9.take k)).2/\r.length<=2*k/\Hid (r=(vU ⟨h,j⟩ b0 (m.m9.take k)).1)/\Hid (wr.ownsRow t.heap.size 107 2 (.slice va r.length vc) r.length (flatK r))/\Hid (Below t.heap.size t wr)) (fun _ _ _ i _=>m.m9.length-(intOf i).toNat)
   case atStart=>exact⟨0,_,_,[],La _,rfl,rfl,rfl,La _,rfl,L4.out,B4.out⟩
   case round=>
    obtain⟨k,va,vc,r,hk,rfl,rfl,rfl,hyl,S,HR,o⟩:=hrel;have O:=o.out.size;by_cases hlt:k<m.m9.length
    ·obtain⟨pb,po,rfl,hpl,v0,v1⟩:=(HP1.out.later o.out).at hlt;have HU:=bA (fy ⟨h,j⟩ b0 m.m9 k hlt);generalize vU ⟨h,j⟩ b0 (m.m9.take k)=U at *;generalize m.m9[k]=p at *;obtain⟨LU,PU⟩:=U;have hy:r=LU:=S.out;subst hy;rcases aBd ⟨h,j⟩ p r PU with⟨rfl,hs,hU⟩|⟨rfl,hs,hU⟩|⟨rfl,hs,h1,h2,hU⟩|⟨rfl,hs,h2,hU⟩|⟨rfl,hs,h1,h2,hU⟩
     all_goals
      have x:=bA (HU.out.trans hU);clear S HU hU;dsimp only at hs;try dsimp only at h1
      try dsimp only at h2
      go_wp2_with(at_builtin;first
       |(refine gN rfl _ _ rfl underlying97 wV rfl (by omega) (by omega) (v:=.slice (some ⟨g7,0,none⟩) (r.length+1) F) rfl u.out rfl rfl rfl (by simp[Value.oneCell']) (by omega) (by omega) ?_;intro g8 cap8 w8 HR8 HT8)
       |(refine gN rfl _ _ rfl underlying97 wV rfl (by omega) (by omega) (v:=.slice va r.length vc) rfl (vA HR.out (cA _ _)) rfl (by simp) rfl (by simp[Value.oneCell']) (by omega) (by simp;omega) ?_;intro g7 F w7 u z;have hs7:t.heap.size<=w7.heap.size:=(by have:=z.out.size;simp at this;omega);obtain⟨r0,r1⟩:=(z.out.blk (eA.new wr #[.string p.s,.int .i64 p.n] 107) (fun e=>by have:=(HR.out.lt _ e.2).2;omega)).c2))
      first
       |(have q:=HR8;exact⟨⟨k+1,some ⟨g8,0,none⟩,cap8,r++[⟨h,j⟩]++[p],by omega,by go_num,by simp,by rw[x.out],by simp;omega,bA (by rw[x.out]),bA (by simpa[flatK]using HR8.out),bA (o.out.trans (((cA _ _).mono O).trans ((z.out.below (by simp;omega) fun i hi e=>by omega).trans (HT8.out.below hs7 fun i hi e=>by omega))))⟩,by simp[intOf];omega⟩)
       |(have q:=u;have q:(p.s.toList==h.toList)=false:=hs;exact⟨⟨k+1,some ⟨g7,0,none⟩,F,r++[p],by omega,by go_num,by simp,by rw[x.out],by simp;omega,bA (by rw[x.out]),bA (by simpa[flatK]using u.out),bA (o.out.trans (((cA _ _).mono O).trans (z.out.below (by simp;omega) fun i hi e=>by omega)))⟩,by simp[intOf];omega⟩)
       |(have q:=u;exact⟨⟨k+1,some ⟨g7,0,none⟩,F,r++[⟨h,j⟩],by omega,by go_num,by simp,by rw[x.out],by simp;omega,bA (by rw[x.out]),bA (by simpa[flatK]using u.out),bA (o.out.trans (((cA _ _).mono O).trans (z.out.below (by simp;omega) fun i hi e=>by omega)))⟩,by simp[intOf];omega⟩)
       |exact⟨⟨k+1,va,vc,r,by omega,by go_num,rfl,by rw[x.out],by omega,bA (by rw[x.out]),vA HR.out (cA _ _),o.out.trans ((cA _ _).mono O)⟩,by simp[intOf];omega⟩
    ·have ek:m.m9.take k=m.m9:=Ua (by omega);rw[ek]at S |-
     have HWA:Hid (ab ⟨h,j⟩ b0 m.m9=(vU ⟨h,j⟩ b0 m.m9).1++if (vU ⟨h,j⟩ b0 m.m9).2=true then [] else [(⟨h,j⟩:lA)]):=rfl;have hle:=HLE.out b0;rw[HWA.out,Za]at hle;generalize vU ⟨h,j⟩ b0 m.m9=U at *;obtain⟨LU,PU⟩:=U;have hy:r=LU:=S.out;subst hy;have hyl2:r.length<=1100001:=by have:r.length<=m.m9.length+1:=Ra (Nat.le_add_right _ _) hle;omega
     obtain⟨-,-,g2,-⟩:=(Q.out.later o.out).c4;have d:=(Q.out.later o.out).free;clear ek hyl S;cases PU
     all_goals
      go_wp2_with(at_builtin;refine gN rfl _ _ rfl underlying97 wV rfl (by omega) (by omega) (v:=.slice va r.length vc) rfl HR.out rfl rfl rfl (by simp[Value.oneCell']) (by omega) O ?_;intro g7 F w7 u z;have HB7:=bA (o.out.trans (z.out.below O fun i hi e=>by omega));clear g2 d;obtain⟨-,-,g2,-⟩:=(Q.out.later HB7.out).c4;have d:=(Q.out.later HB7.out).free);go_meet;first
       |(have q:=u;exact⟨m.l9,r++[⟨h,j⟩],_,_,_,by simp,by rw[HLA.out,HWA.out];simp,by simp at hle |-;omega,km (by simp) P.out Q.out hXP K.out HB7.out (by simpa[flatK]using u.out)⟩)
       |exact⟨m.l9,r,_,_,_,rfl,by rw[HLA.out,HWA.out];simp,hyl2,km rfl P.out Q.out hXP K.out o.out HR.out⟩
 clear P Q K g2;obtain⟨L,ms,n1,p1,d1,rfl,hT,hml1,N,hp1,hp2,hP⟩:=hcut;rename World=>w7;have P:=bA hP;have HPP:=bA (Ud hp1 hp2);rw[hT]at HV;obtain⟨m0,m1,m2,m3⟩:=N.c4;obtain⟨x0,x1,x2,x3,x4,x5,y0,y1,-,-,-,-,hz⟩:=hP.cells;clear hp1 hp2 N hT hP;go_wp2_with fail;refine(H.out.wi _ L ms m.s9 p1 q2 d1 e2 P.out.B HPP.out.1 HPP.out.2 ⟨by show ms.length<=_;omega,H.out.fit.2⟩).mono ?_;rintro e w8 ⟨ra,rc,rfl,ho8,hb8⟩;clear m0 m1 m2 m3 x0 x1 x2 x3 x4 x5 y0 y1 HPP;generalize uC c.w l (bB (·.name) ⟨m.name,L,ms,m.s9⟩ Z)=RL at *;obtain⟨x0,x1,x2,x3,x4,x5,y0,y1,z0,z1,g0,g1,hz8⟩:=(P.out.later hb8).cells;have P8:=bA ((P.out.later hb8).later (cA w8 (.cells #[.int .i64 l,.slice ra RL.length rc] 51)));have HO8:=bA (ho8.later (cA w8 (.cells #[.int .i64 l,.slice ra RL.length rc] 51)));obtain⟨a0,a1⟩:=(eA.new w8 #[.int .i64 l,.slice ra RL.length rc] 51).c2;clear ho8 hb8 x0 x1 x2 x3 x4 x5 y0 y1 z0 z1 g0 g1;by_cases hgt:10000<RL.length
 ·have E:Hid (V=(l,Z,false)):=by show _=_;rw[HV.out,Qa hgt]
  have hgi:(10000:Int)<RL.length:=by omega
  go_upto_region 24 with fail;generalize w8.alloc (.cells #[.int .i64 l,.slice ra RL.length rc] 51)=wA at *;obtain⟨x0,x1,x2,x3,x4,x5,y0,y1,-,-,-,-,-⟩:=P8.out.cells;go_wp2_with(go_at_call 117;refine(H.out.sm _ P8.out.B).mono ?_;rintro e w9 ⟨ra9,rc9,rfl,ho,hb⟩;have P9:=bA (P8.out.later hb);have HO9:=bA ho;clear ho hb x0 x1 x2 x3 x4 x5 y0 y1;obtain⟨-,-,-,-,-,-,-,-,z0,z1,g0,g1,hz9⟩:=P9.out.cells);refine bodyPost_ret (v:=?_) (by simp[results,results86,go_sem,z0,z1];rfl) rfl ?_;rw[E.out];first
   |exact⟨ra9,⟨rc9,rfl⟩,P9.out.done HO9.out P8.out.lt⟩
   |exact⟨ra9,rc9,rfl,P9.out.done HO9.out P8.out.lt⟩
 ·have E:Hid (V=(l,RL,true)):=by show _=_;rw[HV.out,Oa hgt]
  have hgi:¬((10000:Int)<RL.length):=by omega
  go_upto_region 25 with fail;generalize w8.alloc (.cells #[.int .i64 l,.slice ra RL.length rc] 51)=wA at *;obtain⟨-,-,-,-,-,-,-,-,z0,z1,g0,g1,hz9⟩:=P8.out.cells;go_wp2;refine bodyPost_ret (v:=?_) (by simp[results,results86,go_sem,z0,z1];rfl) rfl ?_;rw[E.out];first
   |exact⟨ra,⟨rc,rfl⟩,P8.out.done HO8.out hz⟩
   |exact⟨ra,rc,rfl,P8.out.done HO8.out hz⟩
theorem aT (c:vB) (g:Int) (a:Option Addr) (j:Nat) (h:List dA) (d b:ByteArray) (f:Int) (w:World) (n:oB w a h) (k:h.length+uA h<=1100000) (p:d.size<=1100000) (o:b.size<=1100000) (l:gB c g h=true):
 Calls prog 86 #[iD c,.agg #[.int .i64 g,.slice a h.length j],.string d,.string b,.int .i64 f] w fun e q=>fV (cP c g h d b f) w e q:=by
 by_cases m:(yB d&&(b.toList.isEmpty||cE b) &&xA f (-1) 1000000)=false
 ·rw[show cP c g h d b f=(g,h,false) by unfold cP;rw[Oa (by rw[l];simp),Qa m]];exact IH c g a j h d b f w n k p o l m
 ·have i:(yB d=true/\(b.toList.isEmpty=true\/cE b=true))/\xA f (-1) 1000000=true:=by simpa only[Bool.not_eq_false,Sa,He]using m
  refine IG (aDb n k p l i.1.1) o ?_ i.2 (by show _=_;unfold cP;rw[Oa (by rw[l];simp),Oa m]);cases he:b.toList.isEmpty
  ·exact Ja ⟨rfl,i.1.2.resolve_left (by rw[he];simp)⟩
  ·exact Ca rfl
theorem eA.keepS {w:World} {g h j:Nat} {a:Array Value} {t:TypeId} (c:eA w g a t) (b:g≠h) (v:Value):eA (w.setCell ⟨h,j,none⟩ v) g a t:=
 (((dB.refl h w).setCell j v).block g (aA c) b).trans c
theorem KC (B P N:Nat) (w:World) (h:kB w B P N) (hN:N<=1000000):
 Calls prog 33 #[.pointer (some ⟨B,0,none⟩)] w fun e w'=>∃c:vB,de c/\e=.returned (iD c)/\kB w' B P (N+6)/\dB B w w':=by
 have HC:Hid (kB w B P N):=h;have hlt:=h.lt;have hPw:=h.up.2;clear h;go_enter func33,ntmps33;go_wp2_with fail;refine(cB B P N 8 _ (HC.out.later (cA _ _)) (by omega) (by omega) (by omega)).mono ?_;rintro e i ⟨r,hv1,rfl,G,t⟩;have Z:Hid (kB i B P (N+1)/\dB B w i):=⟨G,(dB.of (cA _ _)).trans t⟩
 have x:eA (w.alloc (.cells #[.int .i64 0,.int .i64 0,.int .i64 0,.int .i64 0,.int .i64 0,.int .i64 0] 33)) w.heap.size #[.int .i64 0,.int .i64 0,.int .i64 0,.int .i64 0,.int .i64 0,.int .i64 0] 33:=heap_alloc_new _ _;have Y1:Hid (eA i w.heap.size #[.int .i64 0,.int .i64 0,.int .i64 0,.int .i64 0,.int .i64 0,.int .i64 0] 33):=(t.block _ (aA x) (by omega)).trans x;have hz0:w.heap.size<i.heap.size:=aA Y1.out;have l:w.heap.size<=i.heap.size:=by omega
 clear G t HC x;go_wp2_with fail;refine(cB B P (N+1) 7 _ (Z.out.1.later (cA _ _)) (by omega) (by omega) (by omega)).mono ?_;rintro e U ⟨D,hv2,rfl,H,m⟩;have u:eA (i.alloc (.cells #[.int .i64 (1+r),.int .i64 6,.int .i64 4,.int .i64 0,.int .i64 0,.int .i64 0] 33)) i.heap.size #[.int .i64 (1+r),.int .i64 6,.int .i64 4,.int .i64 0,.int .i64 0,.int .i64 0] 33:=heap_alloc_new _ _;have O:Hid (eA U i.heap.size #[.int .i64 (1+r),.int .i64 6,.int .i64 4,.int .i64 0,.int .i64 0,.int .i64 0] 33):=(m.block _ (aA u) (by omega)).trans u;have H2:Hid (kB U B P (N+2)/\dB B w U):=⟨H,(Z.out.2.later (cA _ _)).trans m⟩
 have Y2:Hid (eA U w.heap.size #[.int .i64 0,.int .i64 0,.int .i64 0,.int .i64 0,.int .i64 0,.int .i64 0] 33):=(m.block _ (by simp;omega) (by omega)).trans (Y1.out.alloc _);clear H m u Z Y1;have c1:=O.out.cell 1;have a:=O.out.free 1;go_wp2_with fail;refine(cB B P (N+2) 5 _ (H2.out.1.below ((Below.refl _ _).setCell (by show P<=i.heap.size;omega) _)) (by omega) (by omega) (by omega)).mono ?_;rintro e V ⟨F,hv3,rfl,I,n⟩;have y:=eA.set O.out 1 (.int .i64 (1+(D:Int)));have Q:Hid (eA V i.heap.size #[.int .i64 (1+r),.int .i64 (1+D),.int .i64 4,.int .i64 0,.int .i64 0,.int .i64 0] 33):=(n.block _ (aA y) (by omega)).trans y;have H3:Hid (kB V B P (N+3)/\dB B w V):=⟨I,(H2.out.2.below_to ((Below.refl _ _).setCell l _)).trans n⟩
 have Y3:Hid (eA V w.heap.size #[.int .i64 0,.int .i64 0,.int .i64 0,.int .i64 0,.int .i64 0,.int .i64 0] 33):=(n.block _ (by have:=aA Y2.out;simpa using this) (by omega)).trans (Y2.out.keepS (by omega) _);clear I n y Y2 H2 O c1 a;have c2:=Q.out.cell 2;have b:=Q.out.free 2;go_wp2_with fail;refine(cB B P (N+3) 5 _ (H3.out.1.below ((Below.refl _ _).setCell (by show P<=i.heap.size;omega) _)) (by omega) (by omega) (by omega)).mono ?_;rintro e W ⟨M,hv4,rfl,J,o⟩;have z:=eA.set Q.out 2 (.int .i64 (1+(F:Int)));have R:Hid (eA W i.heap.size #[.int .i64 (1+r),.int .i64 (1+D),.int .i64 (1+F),.int .i64 0,.int .i64 0,.int .i64 0] 33):=(o.block _ (aA z) (by omega)).trans z;have H4:Hid (kB W B P (N+4)/\dB B w W):=⟨J,(H3.out.2.below_to ((Below.refl _ _).setCell l _)).trans o⟩
 have Y4:Hid (eA W w.heap.size #[.int .i64 0,.int .i64 0,.int .i64 0,.int .i64 0,.int .i64 0,.int .i64 0] 33):=(o.block _ (by have:=aA Y3.out;simpa using this) (by omega)).trans (Y3.out.keepS (by omega) _);clear J o z Y3 H3 Q c2 b;have c3:=R.out.cell 3;have d:=R.out.free 3;go_wp2_with fail;refine(cB B P (N+4) 3 _ (H4.out.1.below ((Below.refl _ _).setCell (by show P<=i.heap.size;omega) _)) (by omega) (by omega) (by omega)).mono ?_;rintro e X ⟨T,hv5,rfl,K,p⟩;have A:=eA.set R.out 3 (.int .i64 (1+(M:Int)));have S:Hid (eA X i.heap.size #[.int .i64 (1+r),.int .i64 (1+D),.int .i64 (1+F),.int .i64 (1+M),.int .i64 0,.int .i64 0] 33):=(p.block _ (aA A) (by omega)).trans A;have H5:Hid (kB X B P (N+5)/\dB B w X):=⟨K,(H4.out.2.below_to ((Below.refl _ _).setCell l _)).trans p⟩
 have Y5:Hid (eA X w.heap.size #[.int .i64 0,.int .i64 0,.int .i64 0,.int .i64 0,.int .i64 0,.int .i64 0] 33):=(p.block _ (by have:=aA Y4.out;simpa using this) (by omega)).trans (Y4.out.keepS (by omega) _);clear K p A Y4 H4 R c3 d;have c4:=S.out.cell 4;have f:=S.out.free 4;go_wp2_with fail;refine(cB B P (N+5) 200 _ (H5.out.1.below ((Below.refl _ _).setCell (by show P<=i.heap.size;omega) _)) (by omega) (by omega) (by omega)).mono ?_;rintro e Y ⟨v6,hv6,rfl,L,q⟩;have C:=eA.set S.out 4 (.int .i64 (T:Int));have s:Hid (eA Y i.heap.size #[.int .i64 (1+r),.int .i64 (1+D),.int .i64 (1+F),.int .i64 (1+M),.int .i64 T,.int .i64 0] 33):=(q.block _ (aA C) (by omega)).trans C;have H6:Hid (kB Y B P (N+6)/\dB B w Y):=⟨L,(H5.out.2.below_to ((Below.refl _ _).setCell l _)).trans q⟩
 have k:Hid (eA Y w.heap.size #[.int .i64 0,.int .i64 0,.int .i64 0,.int .i64 0,.int .i64 0,.int .i64 0] 33):=(q.block _ (by have:=aA Y5.out;simpa using this) (by omega)).trans (Y5.out.keepS (by omega) _);clear L q C Y5 H5 S c4 f;have c0:=s.out.cell 0;have c1:=s.out.cell 1;have c2:=s.out.cell 2;have c3:=s.out.cell 3;have c4:=s.out.cell 4;have c5:=s.out.cell 5;have g:=s.out.free 5;have r0:=k.out.cell 0;have s0:=k.out.free 0;have r1:=k.out.cell 1;have s1:=k.out.free 1;have r2:=k.out.cell 2;have s2:=k.out.free 2;have r3:=k.out.cell 3;have s3:=k.out.free 3;have r4:=k.out.cell 4;have s4:=k.out.free 4;have r5:=k.out.cell 5;have s5:=k.out.free 5;go_wp2;refine bodyPost_ret (v:=.agg #[.int .i64 (1+r),.int .i64 (1+D),.int .i64 (1+F),.int .i64 (1+M),.int .i64 T,.int .i64 (100+v6)]) (by simp[results,results33,go_sem,r0,r1,r2,r3,r4,r5]) rfl ?_;have j:P<=w.heap.size:=hPw;have hP1:P<=i.heap.size:=by omega
 have E:w.heap.size<=w.heap.size:=Ka _;refine⟨⟨1+r,1+D,1+F,1+M,T,100+v6⟩,⟨⟨by simp only;omega,by simp only;omega⟩,⟨by simp only;omega,by simp only;omega⟩,⟨by simp only;omega,by simp only;omega⟩,⟨by simp only;omega,by simp only;omega⟩,⟨by simp only;omega,by simp only;omega⟩,⟨by simp only;omega,by simp only;omega⟩⟩,rfl,H6.out.1.below ?_,H6.out.2.below_to ?_⟩
 ·exact((((((((Below.refl _ _).setCell hP1 _).setCell j _).setCell j _).setCell j _).setCell j _).setCell j _).setCell j _)
 ·exact((((((((Below.refl _ _).setCell l _).setCell E _).setCell E _).setCell E _).setCell E _).setCell E _).setCell E _)
theorem cH (B P N:Nat) (w:World) (h:kB w B P N) (o:N<=1000000):
 Calls prog 62 #[.pointer (some ⟨B,0,none⟩)] w fun e g=>∃s:ByteArray,s.size<=16/\e=.returned (.string s)/\kB g B P (N+1)/\dB B w g:=by
 have f:Hid (kB w B P N):=h;have k:=h.lt;clear h;go_enter func62,ntmps62;go_wp2_with fail;have c:Hid (vK (w.alloc (.cells ([⟨#[97,99,109,101]⟩,⟨#[98,45,50]⟩,⟨#[122,122]⟩,⟨#[97,99,109,101]⟩].map Value.string).toArray 9)) w.heap.size 4 16):=pL w _ 16 _ 4 rfl (by decide);simp only[Lb,Qc]at c;refine(cB B P N 4 _ (f.out.later (cA _ _)) (by omega) (by omega) (by omega)).mono ?_;rintro e i ⟨v,m,rfl,b,a⟩;obtain⟨s,d,l⟩:=(c.out.but a (by omega)).at m;have j:Hid (kB i B P (N+1)/\dB B w i):=⟨b,(dB.of (cA _ _)).trans a⟩
 clear b a f c;have n:(v:Int)<4:=by omega
 go_wp2;go_ret;exact⟨s,l,rfl,j.out⟩
theorem rP (B P N:Nat) (w:World) (h:kB w B P N) (o:N<=1000000):
 Calls prog 63 #[.pointer (some ⟨B,0,none⟩)] w fun e g=>∃s:ByteArray,s.size<=16/\e=.returned (.string s)/\kB g B P (N+1)/\dB B w g:=by
 have f:Hid (kB w B P N):=h;have k:=h.lt;clear h;go_enter func63,ntmps63;go_wp2_with fail;have c:Hid (vK (w.alloc (.cells ([⟨#[117,112]⟩,⟨#[99,112,117]⟩,⟨#[109,101,109]⟩,⟨#[]⟩].map Value.string).toArray 9)) w.heap.size 4 16):=pL w _ 16 _ 4 rfl (by decide);simp only[Lb,Qc]at c;refine(cB B P N 4 _ (f.out.later (cA _ _)) (by omega) (by omega) (by omega)).mono ?_;rintro e i ⟨v,m,rfl,b,a⟩;obtain⟨s,d,l⟩:=(c.out.but a (by omega)).at m;have j:Hid (kB i B P (N+1)/\dB B w i):=⟨b,(dB.of (cA _ _)).trans a⟩
 clear b a f c;have n:(v:Int)<4:=by omega
 go_wp2;go_ret;exact⟨s,l,rfl,j.out⟩
theorem AQ (B P N:Nat) (w:World) (h:kB w B P N) (o:N<=1000000):
 Calls prog 66 #[.pointer (some ⟨B,0,none⟩)] w fun e g=>∃z:Int,kz z/\e=.returned (.int .i64 z)/\kB g B P (N+1)/\dB B w g:=by
 have f:Hid (kB w B P N):=h;have k:=h.lt;clear h;go_enter func66,ntmps66;go_wp2_with fail;have c:Hid (RS (w.alloc (.cells ([0,4607182418800017408,9218868437227405312,9218868437227405313,-4503599627370496,-4503599627370495,-1,9221120237041090560,-9223372036854775808,1,4614253070214989087].map (Value.int .i64)).toArray 3)) w.heap.size 11):=LZ w _ _ 11 rfl (by decide);simp only[Lb,Qc]at c;refine(cB B P N 11 _ (f.out.later (cA _ _)) (by omega) (by omega) (by omega)).mono ?_;rintro e i ⟨v,m,rfl,b,a⟩;obtain⟨s,d,l⟩:=(c.out.but a (by omega)).at m;have j:Hid (kB i B P (N+1)/\dB B w i):=⟨b,(dB.of (cA _ _)).trans a⟩
 clear b a f c;have n:(v:Int)<11:=by omega
 go_wp2;go_ret;exact⟨s,l,rfl,j.out⟩
theorem UV (r:Rd):zH r 0=([],r):=rfl
theorem LQ (r:Rd):∀k,(zH r k).2.rest.size<=r.rest.size
 |0=>Ka _
 |k+1=>by
  rw[fX,LS];exact Ra (kN 8 _) (Ra (yG 2 _).2 (Ra (yG 1 _).2 (Ra (kN 1 _) (LQ r k))))
def db (B:Nat) (s:ByteArray) (w:World) (e:Ending) (a:World):Prop:=
 ((rK s).2.r9=false/\∃c b,e=.returned (.agg #[.int .i64 (jB (aV s).1),.slice c (rK s).1.length b])/\dG a w.heap.size c (rK s).1/\RT a B (rK s).2/\dB B w a)\/
 ((rK s).2.r9=true/\e=.panicked aM/\dB B w a)
theorem aBi {B k:Nat} {c:Rd} (s:c.rest.size<=1000000000):∃(i:Nat) (o p:ByteArray) (j:Int) (l m n b:Rd),Hid (∀W,RT W B (zH c k).2->Calls prog 59 #[.pointer (some ⟨B,0,none⟩),.int .i64 1] W fun e a=>(e=.returned (.int .i64 (i:Nat))/\RT a B l/\dB B W a)\/(e=.panicked aM/\b.r9=true/\dB B W a))/\Hid (∀W,RT W B l->Calls prog 60 #[.pointer (some ⟨B,0,none⟩),.int .i64 1] W fun e a=>(e=.returned (.string o)/\RT a B m/\dB B W a)\/(e=.panicked aM/\b.r9=true/\dB B W a))/\Hid (∀W,RT W B m->Calls prog 60 #[.pointer (some ⟨B,0,none⟩),.int .i64 2] W fun e a=>(e=.returned (.string p)/\RT a B n/\dB B W a)\/(e=.panicked aM/\b.r9=true/\dB B W a))/\Hid (∀W,RT W B n->Calls prog 59 #[.pointer (some ⟨B,0,none⟩),.int .i64 8] W fun e a=>(e=.returned (.int .i64 j)/\b.r9=false/\RT a B b/\dB B W a)\/(e=.panicked aM/\b.r9=true/\dB B W a))/\Hid (dF (zH c (k+1)).1=dF (zH c k).1++[.int .i64 (i:Nat),.string o,.string p,.int .i64 j])/\Hid ((zH c (k+1)).2=b):=by
 have d:=Ra (LQ c k) s;have f:=Ra (kN 1 (zH c k).2) d;have g:=Ra (yG 1 (zA 1 (zH c k).2).2).2 f;have r:=Ra (yG 2 (oA 1 (zA 1 (zH c k).2).2).2).2 g;refine⟨(zA 1 (zH c k).2).1,(oA 1 (zA 1 (zH c k).2).2).1,(oA 2 (oA 1 (zA 1 (zH c k).2).2).2).1,_,(zA 1 (zH c k).2).2,(oA 1 (zA 1 (zH c k).2).2).2,(oA 2 (oA 1 (zA 1 (zH c k).2).2).2).2,_,fun W h=>?_,fun W h=>(cT B _ 1 W h (by omega) f).mono ?_,fun W h=>(cT B _ 2 W h (by omega) g).mono ?_,fun W h=>pI B _ 8 W h (by omega) r,?_,?_⟩
 ·have q:=pI B _ 1 W h (by omega) d;have:(zA 1 (zH c k).2).1<256:=nL 1 _;rw[kD (by omega)]at q;exact q.mono fun e a h=>h.imp (fun h=>⟨h.1,h.2.2⟩) fun h=>⟨h.1,bD (k:=8) (wF (k:=2) (wF (k:=1) h.2.1)),h.2.2⟩
 ·exact fun e a h=>h.imp (fun h=>⟨h.1,h.2.2⟩) fun h=>⟨h.1,bD (k:=8) (wF (k:=2) h.2.1),h.2.2⟩
 ·exact fun e a h=>h.imp (fun h=>⟨h.1,h.2.2⟩) fun h=>⟨h.1,bD (k:=8) h.2.1,h.2.2⟩
 ·show _=_;rw[fX,az];simp[dF]
 ·show _=_;rw[fX,LS]
theorem dp (B:Nat) (s:ByteArray) (w:World) (hB:RT w B ⟨s,false⟩) (hs:s.size<=1000000000):
 Calls prog 31 #[.pointer (some ⟨B,0,none⟩)] w fun e w'=>db B s w e w':=by
 have y:B<w.heap.size:=by obtain⟨t,h⟩:=hB;exact aA h
 have G:Hid (TG w (w.alloc (.cells #[.int .i64 0,.slice none 0 0] 25)) B w.heap.size #[.int .i64 0,.slice none 0 0] 25 ⟨s,false⟩):=⟨eA.new _ _ _,dB.of (cA _ _),hB.laterD (cA _ _)⟩
 have z:=bA (fun W h=>pI B ⟨s,false⟩ 8 W h (by omega) hs);have h1:=Ra (kN 8 ⟨s,false⟩) hs;unfold db rK JR aV;clear hB hs;generalize zA 8 ⟨s,false⟩=A at *;obtain⟨L0,J⟩:=A;dsimp only at h1 z |-
 generalize jB L0=L at *;have u:=bA (fun W h=>pI B J 2 W h (by omega) h1);have hn:(zA 2 J).1<65536:=nL 2 J;rw[kD (by omega)]at u;have h2:=Ra (kN 2 J) h1;have S2:=bA (fun(h:J.r9=true)=>bD (k:=2) h);generalize zA 2 J=A at *;obtain⟨n,c⟩:=A;dsimp only at h2 hn u S2 |-
 have S5:=bA (fun k (hk:k<=n) h=>pu (r:=c) (k:=k) h n hk);have S1:=bA (fun(h:c.r9=true)=>S5.out 0 (La _) (by rw[UV];exact h));rw[jW];go_enter func31,ntmps31;go_wp2_with fail;refine(z.out _ G.out.T).mono ?_;rintro e V (⟨rfl,-,Q,p⟩|⟨rfl,o,p⟩);rotate_left
 ·exact⟨rfl,Ja ⟨S1.out (S2.out o),rfl,G.out.N.trans p⟩⟩
 replace G:=bA (G.out.call Q p y);have hR1:=aA G.out.Z;have X:=bA (eA.new V #[.int .i64 L,.slice none 0 0] 25);replace G:=bA (G.out.alloc (.cells #[.int .i64 L,.slice none 0 0] 25));clear Q p z S2;go_wp2_with fail;refine(u.out _ G.out.T).mono ?_;rintro e w3 (⟨rfl,S,Q,p⟩|⟨rfl,o,p⟩);rotate_left
 ·exact⟨rfl,Ja ⟨S1.out o,rfl,G.out.N.trans p⟩⟩
 replace G:=bA (G.out.call Q p y);replace X:=bA (X.out.but p (by omega));have K:=bA S;clear Q p u S1 S;generalize V.heap.size=I at *;go_wp2;go_loopw [9] (fun i wr=>∃(k:Nat) (v:Value),k<=n/\i=.int .i64 k/\Hid (TG w wr B w.heap.size #[.int .i64 0,.slice none 0 0] 25 (zH c k).2)/\Hid (eA wr I #[.int .i64 L,v] 25)/\Hid (wr.ownsRow (I+1) 31 4 v k (dF (zH c k).1))/\Hid ((zH c k).2.r9=false)) (fun i _=>n-(intOf i).toNat)
 case atStart=>exact⟨0,_,La _,rfl,bA (by rw[UV];exact G.out),X.out,bA (by rw[UV];exact World.ownsRow_nil _ _ _ _),bA (by rw[UV];exact K.out)⟩
 case round=>
  clear G X K;obtain⟨k,v,hk,rfl,G,X,R,M⟩:=hrel;by_cases hlt:k<n
  ·obtain⟨ki,te,tx,nu,rA,rB,rC,rD,P1,P2,P3,P4,F1,Y⟩:=aBi (B:=B) (k:=k) h2;have x:Hid (rD.r9=true->(zH c n).2.r9=true):=bA (by rw[<-Y.out];exact S5.out (k+1) hlt);have hRw:=aA X.out;have c0:wr.cell? ⟨I,1,none⟩=some v:=X.out.cell 1;have XC:=bA (fun W (h:dB B wr W)=>(X.out.but h (show I≠B by omega)).cell 1);clear M;go_wp2_with fail;go_region_law (first
    |((fail_if_success (have q:=a));refine lG (f:=59) (args:=#[.pointer (some ⟨B,0,none⟩),.int .i64 1]) rfl (by go_simp) ?_;refine(P1.out _ (G.out.T.laterD (Below.refl _ _).drew)).mono ?_;rintro e V (⟨rfl,a,D⟩|⟨rfl,o,D⟩);rotate_left;exact Ja ⟨_,rfl,rfl,Ja ⟨x.out o,rfl,G.out.N.trans ((qN (dB.refl B wr)).trans D)⟩⟩;have P:dB B wr V:=(qN (dB.refl B wr)).trans D;have x1:=XC.out _ P;refine Ca ⟨_,rfl,?_⟩)
    |(have q:=a;clear q;(fail_if_success (have q:=b));refine lG (f:=60) (args:=#[.pointer (some ⟨B,0,none⟩),.int .i64 1]) rfl (by go_simp) ?_;refine(P2.out _ a).mono ?_;rintro e w2 (⟨rfl,b,E⟩|⟨rfl,o,E⟩);rotate_left;exact Ja ⟨_,rfl,rfl,Ja ⟨x.out o,rfl,G.out.N.trans (P.trans E)⟩⟩;have b2:dB B wr w2:=P.trans E;have x2:=XC.out _ b2;refine Ca ⟨_,rfl,?_⟩)
    |(have q:=b;clear q;(fail_if_success (have q:=d));refine lG (f:=60) (args:=#[.pointer (some ⟨B,0,none⟩),.int .i64 2]) rfl (by go_simp) ?_;refine(P3.out _ b).mono ?_;rintro e w3 (⟨rfl,d,F⟩|⟨rfl,o,F⟩);rotate_left;exact Ja ⟨_,rfl,rfl,Ja ⟨x.out o,rfl,G.out.N.trans (b2.trans F)⟩⟩;have b3:dB B wr w3:=b2.trans F;have x3:=XC.out _ b3;refine Ca ⟨_,rfl,?_⟩)
    |(have q:=d;clear q;(fail_if_success (have q:=l));refine lG (f:=59) (args:=#[.pointer (some ⟨B,0,none⟩),.int .i64 8]) rfl (by go_simp) ?_;refine(P4.out _ d).mono ?_;rintro e w4 (⟨rfl,sD,l,H⟩|⟨rfl,o,H⟩);rotate_left;exact Ja ⟨_,rfl,rfl,Ja ⟨x.out o,rfl,G.out.N.trans (b3.trans H)⟩⟩;have U:dB B wr w4:=b3.trans H;have O:=bA (X.out.but U (show I≠B by omega));have x4:=O.out.cell 1;have x5:=(O.out.alloc (.cells #[.int .i64 (ki:Nat),.string te,.string tx,.int .i64 nu] 31)).cell 1;refine Ca ⟨_,rfl,?_⟩)
    |(have q:=l;clear q;refine nX (by rfl) _ _ (by rfl) underlying23 xV rfl (by omega) (by omega) (v:=v) (by rfl) ((gA.but U).row R.out (fun g hg e=>by have:=(R.out.lt g hg).1;omega)) (by rfl) (by rfl) rfl (by simp[Value.oneCell']) (by omega) (by have:=U.size;omega) ?_;intro gg cap w5 HO HT _;have s5:=(HT.out.blk O.out (fun e=>by omega)).cell 1;have m:=(HT.out.blk O.out (fun e=>by omega)).free 1))
   all_goals
    obtain⟨y1,y2,y3⟩:=pT O.out HT.out HO.out (Ye _) 1;go_wp2;exact⟨⟨k+1,_,by omega,by go_num,bA (by rw[Y.out];exact(G.out.call l U y).turn y3 (fun j e=>by omega) y (Ka _)),bA (by simpa using y1),bA (by rw[F1.out];exact y2),bA (by rw[Y.out];exact sD)⟩,by simp[intOf];omega⟩
  ·obtain rfl:k=n:=by omega
   obtain⟨ra,rc,rfl⟩:=tS R.out;obtain⟨a0,a1⟩:=X.out.c2;obtain⟨b0,P⟩:=G.out.Z.c2;have e0:=G.out.Z.free;have hZ:=aA G.out.Z;go_wp2;have C:=fun x0 x1=>((gA.refl (·=w.heap.size) wr).setCell (Ca rfl) 0 x0).setCell (Ca rfl) 1 x1;have hO:dG wr (I+1) ra (zH c k).1:=nK (by rw[jW];exact R.out);refine bodyPost_ret (v:=?_) (by simp[results,results31,go_sem,b0,P];rfl) rfl (Ca ⟨M.out,ra,rc,rfl,((hO.turn (C _ _) (fun g e=>by omega)).mono (by omega)),G.out.T.imp fun _ h=>(C _ _).blk h (by omega),G.out.N.upToD ((C _ _).below (by omega) fun q hq e=>by omega)⟩)
