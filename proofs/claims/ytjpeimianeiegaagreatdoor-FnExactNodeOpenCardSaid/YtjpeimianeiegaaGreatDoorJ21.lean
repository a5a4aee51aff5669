import Derived.Test.YtjpeimianeiegaaGreatDoorJ17
set_option maxRecDepth 100000
set_option maxHeartbeats 2000000
namespace Go.Proofs.YtjpeimianeiegaaGreatDoor
open Go.RowKit Tryz
def dw (a:List eB):Prop:=∀i (h:i<a.length),a[i].name.size<=1000000000/\a[i].value.size<=1000000000
theorem WX {w:World} {B d:Nat} {e:TypeId} {a:Nat} {v:Value} {n:Nat} {f:List Value} (h:w.ownsRow B e a v n f) (j:d<=B):w.ownsRow d e a v n f:=by
 refine⟨h.1,?_⟩;rcases h.2 with i|⟨g,b,c,l,k,r⟩
 ·exact Ba i
 ·exact Ea ⟨g,b,c,l,Ma j k,r⟩
theorem ic (a:List eB) (m:Nat) (h:m<a.length):(lD a)[m*2]?=some (.string a[m].name):=by
 have e:lD a=lD (a.take m)++lD (a.drop m):=by rw[<-tG,Xa]
 have b:(lD (a.take m)).length=m*2:=by rw[vP,Ta];omega
 rw[e,Rc (by omega),b,Vg,Ra h];rfl
def NA (e:Ending) (w d:World) (l:List eB) (c i:Nat):Prop:=∃b a,e=.returned (.tuple #[.slice b l.length a,.int .i64 (c:Nat),.int .i64 (i:Nat)])/\iE d w.heap.size b l/\Below w.heap.size w d
def yw (e:Ending) (w d:World) (l:List eB) (c i:Nat):Prop:=∃b a,e=.returned (.tuple #[.slice b l.length a,.int .i64 (c:Nat),.int .i64 (i:Nat)])/\l.length<=a/\iE d w.heap.size b l/\Below w.heap.size w d
theorem TL (a:Option Addr) (e0:Nat) (c:List eB) (w:World) (hf:gE w a c) (hB:dw c) (hlen:c.length<=2000000) (hcap:c.length<=e0):
 Calls prog 205 #[.slice a c.length e0] w fun e P=>yw e w P (qB c).1 (qB c).2.1 (qB c).2.2:=by
 have HF:Hid (gE w a c):=hf;have HB:Hid (dw c):=hB;clear hf hB;by_cases h16:16<c.length
 ·rw[NO h16];go_enter func205,ntmps205;go_wp2;refine bodyPost_ret (v:=.tuple #[.slice (some ⟨w.heap.size,0,none⟩) 0 0,.int .i64 40,.int .i64 0]) (by simp[results,results205,go_sem]) rfl ⟨_,_,rfl,Da _,Ba rfl,cA _ _⟩
 have J:Hid (¬16<c.length):=h16;go_enter func205,ntmps205;go_wp2;go_loopw [6,7,8,25] (fun _ _ _ i wr=>∃k:Nat,k<=c.length/\i=.int .i64 k/\Hid (nC c 0=nC (c.drop k) k)/\Below w.heap.size w wr) (fun _ _ _ i _=>c.length-(intOf i).toNat)
 case atStart=>exact⟨0,Ha _,rfl,rfl,cA _ _⟩
 case round=>
  obtain⟨k,hk,rfl,t,d⟩:=hrel;by_cases j:k<c.length
  ·obtain⟨b,o,rfl,hb,c0,c1⟩:=(HF.out.later d).at j;obtain⟨hs1,hs2⟩:=HB.out k j;have y:Hid _:=fun W=>bo c[k].name W (by unfold maxLen;omega);have HVL:Hid _:=fun W=>LF c[k].value W hs2;have F:=gZ c k j;have K:Hid (∀V,lX c[k]=V->V≠0->qB c=([],V,k)):=fun V h h0=>GS J.out (by rw[t.out,F,h,Ca h0]);have Z:Hid (lX c[k]=0->nC c 0=nC (c.drop (k+1)) (k+1)):=fun h=>by rw[t.out,F,Ga h]
   unfold lX at K Z;clear F hs1 hs2;generalize c[k].name=p at *;generalize c[k].value=r at *;go_wp2_with fail;refine fC (y.out _) ?_;cases hnm:QF p
   ·have E:=bA (K.out 41 (by rw[hnm];rfl) (by omega));clear hnm;go_wp2;refine bodyPost_ret (v:=.tuple #[.slice (some ⟨w.heap.size,0,none⟩) 0 0,.int .i64 41,.int .i64 k]) (by simp[results,results205,go_sem]) rfl ?_;rw[E.out];exact⟨_,_,rfl,Da _,Ba rfl,pA d (cA _ _)⟩
   rw[hnm,Ga rfl]at K Z;clear hnm;go_wp2_with fail;refine(HVL.out _).mono ?_;rintro e w2 ⟨rfl,hb2⟩;have G:Hid _:=pA (pA d (cA _ _)) hb2;clear hb2 HVL y;generalize bP r=V at *;by_cases h0:V=0
   ·have E:=bA (Z.out h0);subst h0;go_wp2;exact⟨⟨k+1,by omega,by go_num,E.out,G.out⟩,by simp[intOf];omega⟩
   ·have E:=bA (K.out V rfl h0);have h0b:((V:Int) != 0)=true:=by simp;omega
    clear h0;go_wp2;refine bodyPost_ret (v:=.tuple #[.slice (some ⟨w.heap.size,0,none⟩) 0 0,.int .i64 V,.int .i64 k]) (by simp[results,results205,go_sem]) rfl ?_;rw[E.out];exact⟨_,_,rfl,Da _,Ba rfl,G.out⟩
  ·have HN:Hid (nC c 0=none):=by
    show _=_;rw[t.out,Pb (by omega)];rfl
   clear t HB;go_wp2;clear j hk;go_loopw [9,10,12,47,54,55,56] (fun _ _ _ i _ _ _ wr=>∃k:Nat,k<=c.length/\i=.int .i64 k/\Hid (nE [] c 0=nE (c.take k) (c.drop k) k)/\Below w.heap.size w wr) (fun _ _ _ i _ _ _ _=>c.length-(intOf i).toNat)
   case atStart=>exact⟨0,Ha _,rfl,rfl,d⟩
   case round=>
    clear d;obtain⟨k,hk,rfl,t,d⟩:=hrel;by_cases j:k<c.length
    ·obtain⟨b,o,rfl,hb,c0,c1⟩:=(HF.out.later d).at j;have F:=CQ c k j;have hk0:(0:Int)<=(k:Int):=by omega
     have hkc:(k:Int)<=(e0:Int):=by omega
     have HYES:Hid _:=fun h=>JM J.out HN.out (by rw[t.out,F,Ga h]);have HNO:Hid (((c.take k).any fun x=>nR x c[k])=false->nE [] c 0=nE (c.take (k+1)) (c.drop (k+1)) (k+1)):=fun h=>by rw[t.out,F,Ca (by rw[h];simp)]
     have HSN:Hid (∀x,nR x c[k]=(x.name.toList==c[k].name.toList)):=fun x=>rfl;clear F;generalize hlk:c[k]=lk at *;generalize lk.name=p at *;generalize lk.value=r at *;have u:Hid (lA (wr.alloc (.cells #[.string p,.string r] 199)) wr.heap.size #[.string p,.string r] 199/\Below w.heap.size w (wr.alloc (.cells #[.string p,.string r] 199))):=⟨heap_alloc_new _ _,pA d (cA _ _)⟩
     go_wp2;generalize wr.alloc (.cells #[.string p,.string r] 199)=W at *;clear hb c0 c1 d;generalize wr.heap.size=Q at *;clear wr;go_loopw [12,56] (fun _ i wr=>∃m:Nat,m<=k/\i=.int .i64 m/\Hid (((c.take m).any fun x=>nR x lk)=false)/\Below W.heap.size W wr) (fun _ i _=>k-(intOf i).toNat)
     case atStart=>exact⟨0,Ha _,rfl,by show _=_;simp,Below.refl _ _⟩
     case round=>
      obtain⟨m,hm,rfl,C,l⟩:=hrel;have X:=u.out.1.later l;have x0:=X.cell 0;simp only[Xb,Kb]at x0;have hXl:=aA X;clear X;by_cases hmk:m<k
      ·obtain⟨b',o',e',hb',d0,d1⟩:=(HF.out.later (pA u.out.2 l)).at (i:=m) (by omega)
       simp only[Ja,Addr.mk.injEq,Ub]at e';obtain⟨rfl,rfl⟩:=e';have hT1:(c.take k).any (fun x=>nR x lk)=true\/nR c[m] lk=false:=by
        cases hq:nR c[m] lk with
        |false=>exact Ea rfl
        |true=>
         left;rw[Dg];refine⟨c[m],?_,hq⟩;rw[List.mem_take_iff_getElem];exact⟨m,by omega,rfl⟩
       have HT1:Hid _:=hT1;have HQ:Hid _:=HSN.out c[m];have HT2:Hid (nR c[m] lk=false->((c.take (m+1)).any fun x=>nR x lk)=false):=fun h=>by rw[La (by omega),Tf,C.out];simp[h]
       clear hT1;generalize c[m]=lm at *;generalize lm.name=O at *;generalize lm.value=va2 at *;by_cases hq:(O.toList==p.toList)=true
       ·have E:Hid (qB c=([],45,k)):=by
         rcases HT1.out with h|h
         ·exact HYES.out h
         ·rw[HQ.out,hq]at h;exact absurd h (by simp)
        go_wp2;refine bodyPost_ret (v:=.tuple #[.slice (some ⟨w.heap.size,0,none⟩) 0 0,.int .i64 45,.int .i64 k]) (by simp[results,results205,go_sem]) rfl ?_;rw[E.out];exact⟨_,_,rfl,Da _,Ba rfl,pA (pA u.out.2 l) (cA _ _)⟩
       ·have hq':(O.toList==p.toList)=false:=by simpa using hq
        have E:Hid _:=HT2.out (by rw[HQ.out];exact hq');clear hq;go_wp2;exact⟨⟨m+1,by omega,by go_num,E.out,pA l (cA _ _)⟩,by simp[intOf];omega⟩
      ·have Y:m=k:=by omega
       have E:Hid _:=HNO.out (by rw[<-Y];exact C.out);subst Y;go_wp2;exact⟨⟨m+1,by omega,by go_num,E.out,pA u.out.2 l⟩,by simp[intOf];omega⟩
    ·have HN2:Hid (nE [] c 0=none):=by
      show _=_;rw[t.out,Pb (by omega)];rfl
     clear t;go_wp2;clear j hk;go_loopw [13,14,16,17,72] (fun out me _ _ i wr=>∃(k:Nat) (f:List eB) (T cv:Nat) (L:Bool),k<=c.length/\f.length<=k/\Hid (zF [] c=zF f (c.drop k)/\L=oV (c.take k))/\i=.int .i64 k/\out=.slice (some ⟨T,0,none⟩) f.length cv/\me=.bool L/\Hid (wr.ownsRow w.heap.size 199 2 (.slice (some ⟨T,0,none⟩) f.length cv) f.length (lD f))/\Below w.heap.size w wr) (fun _ _ _ _ i _=>c.length-(intOf i).toNat)
     case atStart=>
      exact⟨0,[],_,_,false,Ha _,Ha _,⟨rfl,by simp[oV]⟩,rfl,rfl,rfl,WX (World.ownsRow_made wr #[] 0 (Da _) (by simp[maxLen]) (by simp)) d.size,pA d (cA _ _)⟩
     case round=>
      clear d;obtain⟨k,f,T,cv,L,hk,hy,t,rfl,rfl,rfl,n,d⟩:=hrel;have hsz:=d.size;by_cases j:k<c.length
      ·obtain⟨b,o,rfl,hb,c0,c1⟩:=(HF.out.later d).at j;have F:=jj f c k j;have C:=aBz c k j;have hE:=jr c[k];have hMN:cN c[k]=(c[k].name.toList==[95,95,110,97,109,101,95,95]):=by rw[cN,show QL.toList=[95,95,110,97,109,101,95,95] by rw[QL,ByteArray.toList_eq]]
       by_cases D:dS c[k]=true
       ·have E:Hid (zF [] c=zF f (c.drop (k+1))/\L=oV (c.take (k+1))):=by
         refine⟨?_,?_⟩
         ·rw[t.out.1,F,Ga D]
         ·rw[C,D,t.out.2];simp
        have heb:c[k].value.toList.isEmpty=true:=by rw[<-hE];exact D
        clear F C D hE hMN;generalize c[k].name=p at *;generalize c[k].value=r at *;go_wp2;exact⟨⟨k+1,f,T,cv,L,by omega,by omega,E.out,by go_num,rfl,rfl,cB n.out (cA _ _),pA d (cA _ _)⟩,by simp[intOf];omega⟩
       ·have E:Hid (zF [] c=zF (vO c[k] f) (c.drop (k+1))/\(L||cN c[k])=oV (c.take (k+1))):=by
         refine⟨?_,?_⟩
         ·rw[t.out.1,F,Ca D]
         ·have he':dS c[k]=false:=by simpa using D
          rw[C,he',t.out.2];simp
        have heb:c[k].value.toList.isEmpty=false:=by rw[<-hE];simpa using D
        have HMN:Hid _:=hMN;have HLK:Hid (∀x,wK x c[k]=Op.bytesLess x.name.toList c[k].name.toList):=fun x=>rfl;have HFL:Hid (lD [c[k]]=[.string c[k].name,.string c[k].value]):=rfl;clear F C D hE hMN;generalize c[k]=lk at *;generalize lk.name=p at *;generalize lk.value=r at *;have u:Hid (lA (wr.alloc (.cells #[.string p,.string r] 199)) wr.heap.size #[.string p,.string r] 199):=heap_alloc_new _ _;have H:Hid ((wr.alloc (.cells #[.string p,.string r] 199)).ownsRow w.heap.size 199 2 (.slice (some ⟨T,0,none⟩) f.length cv) f.length (lD f)):=cB n.out (cA _ _);have HBW:Hid (Below w.heap.size w (wr.alloc (.cells #[.string p,.string r] 199))/\w.heap.size<=wr.heap.size/\T<wr.heap.size):=⟨pA d (cA _ _),hsz,by
         rcases n.out.2 with⟨D,_⟩|⟨g',cap',cur,D,_,hb,_⟩
         ·simp at D
         ·simp only[Value.slice.injEq,Ja,Addr.mk.injEq,Ub]at D;rw[D.1];exact aA hb⟩
        cases L
        all_goals
         go_wp2;generalize wr.alloc (.cells #[.string p,.string r] 199)=W at *;clear n d hsz hb c0 c1;generalize wr.heap.size=Q at *;clear wr;go_loopw [17] (fun b0 wr=>∃m:Nat,m<=f.length/\b0=.int .i64 m/\Hid (qW lk f=m+qW lk (f.drop m))/\Below W.heap.size W wr) (fun b0 _=>f.length-(intOf b0).toNat)
         case atStart=>exact⟨0,Ha _,rfl,by show _=_;simp,Below.refl _ _⟩
         case round=>
          obtain⟨m,hm,rfl,C,d⟩:=hrel;have X:=u.out.later d;have x0:=X.cell 0;have x1:=X.cell 1;simp only[Xb,Kb,Fa]at x0 x1;have y0:=oA.cells x0;have hne:=oA.there wr;have HX:Hid (lA wr Q #[.string p,.string r] 199):=X;clear X x0 x1;have hcs:(∃h:m<f.length,wK f[m] lk=true/\qW lk f=m+1+qW lk (f.drop (m+1)))\/(¬(m:Int)<(f.length:Int)\/∃h:m<f.length,wK f[m] lk=false)/\qW lk f=m:=by
           by_cases q:m<f.length
           ·have HPS:=aCq lk f m q;cases s:wK f[m] lk
            ·exact Ea ⟨Ea ⟨q,s⟩,by rw[C.out,HPS,Ca (by rw[s];simp)];rfl⟩
            ·exact Ba ⟨q,s,by rw[C.out,HPS,Ga s];omega⟩
           ·exact Ea ⟨Ba (by omega),by rw[C.out,Pb (by omega)];simp[qW]⟩
          have y:=bA fun(q:m<f.length)=>oA.cells ((kQ (cB H.out d)).2.2.2 (m*2) _ (ic f m q));rcases hcs with⟨q,s,h2⟩|⟨hx,h2⟩
          ·have E2:=bA h2;have y2:=y.out q;have hm1:(m:Int)<(f.length:Int):=by omega
           have hm00:(0:Int)<=(m:Int):=by omega
           rw[HLK.out]at s;clear y h2 C;generalize f[m].name=O at *;go_wp2_with fail;refine jA (by kernel_rfl) (by kernel_rfl) ?_;repeat (go_big_quiet_step (fail))
           refine wpQuiet_nil ?_;rintro _ ⟨x,rfl⟩;have HXB:Hid _:=pA d x.h;clear y0 y2 hne;generalize x.w'=g at *;clear x;go_wp2;exact⟨⟨m+1,by omega,by go_num,E2.out,HXB.out⟩,by simp[intOf];omega⟩
          have E2:=bA h2;have hm00:(0:Int)<=(m:Int):=by omega
          clear h2 C;rcases hx with hml'|⟨q,s⟩
          have hml0:¬m<f.length:=by omega
          rotate_left;have y2:=y.out q;have hm1:(m:Int)<(f.length:Int):=by omega
          rw[HLK.out]at s;generalize f[m].name=O at *;all_goals
           go_wp2_with fail;refine jA (by kernel_rfl) (by kernel_rfl) ?_;repeat (go_big_quiet_step (fail))
           refine wpQuiet_nil ?_;rintro _ ⟨x,rfl⟩;try clear y2
           have hx:=x.h;clear y0 hne y;generalize x.w'=g at *;clear x;have G:Hid _:=pA d hx;have R:Hid _:=pA HBW.out.1 G.out;obtain⟨hcv,hg2,-,hrc⟩:=kQ (cB H.out G.out);have a0:=bA hrc;have M:=HX.out.later hx;have x0:g.cell? ⟨Q,0,none⟩=some (.string p):=M.cell 0;have x1:g.cell? ⟨Q,1,none⟩=some (.string r):=M.cell 1;have U:=aA M;have hmc:(m:Int)<=(cv:Int):=by omega
           have hmn:(m:Int)<=(f.length:Int):=by omega
           have A:Hid (∀P,Below g.heap.size g P->P.cell? ⟨Q,0,none⟩=some (.string p)/\P.cell? ⟨Q,1,none⟩=some (.string r)):=fun P h=>⟨(h.cell U).trans x0,(h.cell U).trans x1⟩
           have hL1:(lD (f.take m)).length=m*2:=by rw[vP,Ta];omega
           have hL2:(lD (f.drop m)).length=(f.length-m)*2:=by rw[vP,Lc]
           clear hx d HX H u M hrc;go_upto_region 33 with fail;go_region_held3 (fun P=>P.cell? ⟨Q,0,none⟩=some (.string p)/\P.cell? ⟨Q,1,none⟩=some (.string r))
            (first|go_keep|exact A.out _ k7|exact A.out _ k6|exact A.out _ (N.alloc N.size _)|exact A.out _ N|exact A.out _ (JJ g _)|exact A.out _ (JK g _ _))
            (first
             |(refine rU (by rfl) _ _ (by rfl) underlying194 zQ rfl (by omega) (by omega) (B:=g.heap.size) (by rfl) (by exact hown6) _ (by rfl) hL2 (by exact aIm (uW a0.out hg2 k6) m hcv) (OV _) (by omega) (by exact k6.size) ?_;intro g7 S w7 I hB7 hk7 _;have k7:=k6.trans hB7)
             |(refine rU (by rfl) _ _ (by rfl) underlying194 zQ rfl (by omega) (by omega) (B:=g.heap.size) (by rfl) (by first|exact z|exact cB z (cA _ _)) [.string p,.string r] (by rfl) rfl (by first|exact bu (heap_alloc_new _ _)|exact bu ((hk5 _ (by simp) (by omega)).trans (yo g _ _))|exact bu ((hk5 _ (by simp;omega) (by omega)).trans (yq g _ _))) (by simp[Value.oneCell']) (by omega) (by first|exact N.size|exact(N.alloc N.size _).size) ?_;intro g6 cap6 w6 hown6 hB6 hk6 _;have k6:Below g.heap.size g w6:=(by first|exact N.trans hB6|exact(N.alloc N.size _).trans hB6))
             |(refine rU (by rfl) _ _ (by rfl) underlying194 zQ rfl (by omega) (by omega) (B:=g.heap.size) (by rfl) (by first|exact aOr g _|exact aOs g _ _|exact aOt g _ _) _ (by rfl) hL1 (by first|exact og (uW a0.out hg2 (JJ g _)) m|exact og (uW a0.out hg2 (JK g _ _)) m) (OV _) (by omega) (by first|exact(JJ g _).size|exact(JK g _ _).size) ?_;intro g5 cap5 w5 z hB5 hk5 _;have N:Below g.heap.size g w5:=(by first|exact(JJ g _).trans hB5|exact(JK g _ _).trans hB5);simp only[Oa,Jb]at z |-))
           all_goals
            have hl:(vO lk f).length=m+1+(f.length-m):=by rw[ZU];omega
            have HO7:Hid (w7.ownsRow w.heap.size 199 2 (.slice (some ⟨g7,0,none⟩) (vO lk f).length S) (vO lk f).length (lD (vO lk f))):=by
             have hfl:lD (vO lk f)=lD (f.take m)++[.string p,.string r]++lD (f.drop m):=by
              rw[vO,E2.out,tG,show lk::f.drop m=[lk]++f.drop m from rfl,tG,HFL.out,Df]
             show World.ownsRow _ _ _ _ _ _ _;rw[hl,hfl];exact WX I R.out.size
            have HB7:Hid _:=pA R.out k7;rw[<-hl];have hle7:(vO lk f).length<=k+1:=by omega
            clear I k7 hl;generalize vO lk f=ys7 at *;go_wp2;refine⟨⟨k+1,ys7,g7,S,_,by omega,hle7,⟨E.out.1,?_⟩,by go_num,rfl,rfl,HO7.out,HB7.out⟩,by simp[intOf];omega⟩;have h:=E.out.2;rw[HMN.out]at h;simpa using h
      ·have HE:Hid (zF [] c=f/\L=oV c):=by
        have h:=t.out;rw[Pb (by omega),Pa (by omega)]at h;exact h
       have HR:Hid (iE wr w.heap.size (some ⟨T,0,none⟩) f):=uO n.out;have hcvr:=(kQ n.out).1;clear n t;cases L with
       |false=>
        have E:Hid _:=UK J.out HN.out HN2.out HE.out.2.symm;go_wp2;refine bodyPost_ret (v:=.tuple #[.slice (some ⟨w.heap.size,0,none⟩) 0 0,.int .i64 46,.int .i64 0]) (by simp[results,results205,go_sem]) rfl ?_;rw[E.out];exact⟨_,_,rfl,Da _,Ba rfl,d⟩
       |true=>
        have E:Hid (qB c=(f,0,0)):=by show _=_;rw[fe J.out HN.out HN2.out HE.out.2.symm,HE.out.1]
        go_wp2;refine bodyPost_ret (v:=.tuple #[.slice (some ⟨T,0,none⟩) f.length cv,.int .i64 0,.int .i64 0]) (by simp[results,results205,go_sem]) rfl ?_;rw[E.out];exact⟨_,_,rfl,hcvr,HR.out,d⟩
theorem TK (a:Option Addr) (c:Nat) (b:List eB) (w:World) (n:gE w a b) (m:dw b) (g:b.length<=2000000) (f:b.length<=c):
 Calls prog 205 #[.slice a b.length c] w fun e h=>NA e w h (qB b).1 (qB b).2.1 (qB b).2.2:=by
 refine(TL a c b w n m g f).mono ?_;rintro e h ⟨i,d,j,_,k,l⟩;exact⟨i,d,j,k,l⟩
