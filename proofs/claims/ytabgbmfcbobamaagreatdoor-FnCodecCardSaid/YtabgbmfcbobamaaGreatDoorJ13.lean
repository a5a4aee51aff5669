import Derived.Test.YtabgbmfcbobamaaGreatDoorJ07
import Derived.Test.YtabgbmfcbobamaaGreatDoorJ09
import Derived.Test.YtabgbmfcbobamaaGreatDoorJ10
set_option maxRecDepth 100000
set_option maxHeartbeats 2000000
namespace Go.Proofs.YtabgbmfcbobamaaGreatDoor
open Go.RowKit Tryz
def JC (a:List mA):Prop:=∀i (h:i<a.length),a[i].name.size<=1000000000/\a[i].value.size<=1000000000
theorem kX {w:World} {B c:Nat} {e:TypeId} {size:Nat} {v:Value} {n:Nat} {d:List Value} (h:w.ownsRow B e size v n d) (i:c<=B):w.ownsRow c e size v n d:=by
 refine⟨h.1,?_⟩;rcases h.2 with f|⟨g,a,b,k,j,r⟩
 ·exact Ca f
 ·exact Ja ⟨g,a,b,k,Ra i j,r⟩
theorem FJ (a:List mA) (m:Nat) (h:m<a.length):(aB a)[m*2]?=some (.string a[m].name):=by
 have e:aB a=aB (a.take m)++aB (a.drop m):=by rw[<-eD,Ya]
 have b:(aB (a.take m)).length=m*2:=by rw[lF,Hb];omega
 rw[e,Bd (by omega),b,Nat.sub_self,Kb h];rfl
def JD (e:Ending) (w d:World) (l:List mA) (c i:Nat):Prop:=∃b a,e=.returned (.tuple #[.slice b l.length a,.int .i64 (c:Nat),.int .i64 (i:Nat)])/\gC d w.heap.size b l/\Below w.heap.size w d
def OG (e:Ending) (w d:World) (l:List mA) (c i:Nat):Prop:=∃b a,e=.returned (.tuple #[.slice b l.length a,.int .i64 (c:Nat),.int .i64 (i:Nat)])/\l.length<=a/\gC d w.heap.size b l/\Below w.heap.size w d
theorem bS (a:Option Addr) (e0:Nat) (c:List mA) (w:World) (hf:sC w a c) (hB:JC c) (hlen:c.length<=2000000) (hcap:c.length<=e0):
 Calls prog 122 #[.slice a c.length e0] w fun e P=>OG e w P (pA c).1 (pA c).2.1 (pA c).2.2:=by
 have HF:Hid (sC w a c):=hf;have HB:Hid (JC c):=hB;clear hf hB;by_cases h16:16<c.length
 ·rw[JM h16];go_enter func122,ntmps122;go_wp2;refine bodyPost_ret (v:=.tuple #[.slice (some ⟨w.heap.size,0,none⟩) 0 0,.int .i64 40,.int .i64 0]) (by simp[results,results122,go_sem]) rfl ⟨_,_,rfl,Ka _,Ca rfl,cA _ _⟩
 have J:Hid (¬16<c.length):=h16;go_enter func122,ntmps122;go_wp2;go_loopw [6,7,8,25] (fun _ _ _ i wr=>∃k:Nat,k<=c.length/\i=.int .i64 k/\Hid (kC c 0=kC (c.drop k) k)/\Below w.heap.size w wr) (fun _ _ _ i _=>c.length-(intOf i).toNat)
 case atStart=>exact⟨0,La _,rfl,rfl,cA _ _⟩
 case round=>
  obtain⟨k,hk,rfl,t,d⟩:=hrel;by_cases j:k<c.length
  ·obtain⟨b,o,rfl,hb,c0,c1⟩:=(HF.out.later d).at j;obtain⟨hs1,hs2⟩:=HB.out k j;have y:Hid _:=fun W=>VI c[k].name W (by unfold maxLen;omega);have HVL:Hid _:=fun W=>GM c[k].value W hs2;have F:=eY c k j;have K:Hid (∀V,fU c[k]=V->V≠0->pA c=([],V,k)):=fun V h h0=>DE J.out (by rw[t.out,F,h,Oa h0]);have Z:Hid (fU c[k]=0->kC c 0=kC (c.drop (k+1)) (k+1)):=fun h=>by rw[t.out,F,Qa h]
   unfold fU at K Z;clear F hs1 hs2;generalize c[k].name=p at *;generalize c[k].value=r at *;go_wp2_with fail;refine pD (y.out _) ?_;cases hnm:LC p
   ·have E:=bA (K.out 41 (by rw[hnm];rfl) (by omega));clear hnm;go_wp2;refine bodyPost_ret (v:=.tuple #[.slice (some ⟨w.heap.size,0,none⟩) 0 0,.int .i64 41,.int .i64 k]) (by simp[results,results122,go_sem]) rfl ?_;rw[E.out];exact⟨_,_,rfl,Ka _,Ca rfl,nA d (cA _ _)⟩
   rw[hnm,Qa rfl]at K Z;clear hnm;go_wp2_with fail;refine(HVL.out _).mono ?_;rintro e w2 ⟨rfl,hb2⟩;have G:Hid _:=nA (nA d (cA _ _)) hb2;clear hb2 HVL y;generalize dN r=V at *;by_cases h0:V=0
   ·have E:=bA (Z.out h0);subst h0;go_wp2;exact⟨⟨k+1,by omega,by go_num,E.out,G.out⟩,by simp[intOf];omega⟩
   ·have E:=bA (K.out V rfl h0);have h0b:((V:Int) != 0)=true:=by simp;omega
    clear h0;go_wp2;refine bodyPost_ret (v:=.tuple #[.slice (some ⟨w.heap.size,0,none⟩) 0 0,.int .i64 V,.int .i64 k]) (by simp[results,results122,go_sem]) rfl ?_;rw[E.out];exact⟨_,_,rfl,Ka _,Ca rfl,G.out⟩
  ·have HN:Hid (kC c 0=none):=by
    show _=_;rw[t.out,Ac (by omega)];rfl
   clear t HB;go_wp2;clear j hk;go_loopw [9,10,12,47,54,55,56] (fun _ _ _ i _ _ _ wr=>∃k:Nat,k<=c.length/\i=.int .i64 k/\Hid (uD [] c 0=uD (c.take k) (c.drop k) k)/\Below w.heap.size w wr) (fun _ _ _ i _ _ _ _=>c.length-(intOf i).toNat)
   case atStart=>exact⟨0,La _,rfl,rfl,d⟩
   case round=>
    clear d;obtain⟨k,hk,rfl,t,d⟩:=hrel;by_cases j:k<c.length
    ·obtain⟨b,o,rfl,hb,c0,c1⟩:=(HF.out.later d).at j;have F:=AV c k j;have hk0:(0:Int)<=(k:Int):=by omega
     have hkc:(k:Int)<=(e0:Int):=by omega
     have HYES:Hid _:=fun h=>EV J.out HN.out (by rw[t.out,F,Qa h]);have HNO:Hid (((c.take k).any fun x=>nQ x c[k])=false->uD [] c 0=uD (c.take (k+1)) (c.drop (k+1)) (k+1)):=fun h=>by rw[t.out,F,Oa (by rw[h];simp)]
     have HSN:Hid (∀x,nQ x c[k]=(x.name.toList==c[k].name.toList)):=fun x=>rfl;clear F;generalize hlk:c[k]=lk at *;generalize lk.name=p at *;generalize lk.value=r at *;have u:Hid (eA (wr.alloc (.cells #[.string p,.string r] 156)) wr.heap.size #[.string p,.string r] 156/\Below w.heap.size w (wr.alloc (.cells #[.string p,.string r] 156))):=⟨heap_alloc_new _ _,nA d (cA _ _)⟩
     go_wp2;generalize wr.alloc (.cells #[.string p,.string r] 156)=W at *;clear hb c0 c1 d;generalize wr.heap.size=Q at *;clear wr;go_loopw [12,56] (fun _ i wr=>∃m:Nat,m<=k/\i=.int .i64 m/\Hid (((c.take m).any fun x=>nQ x lk)=false)/\Below W.heap.size W wr) (fun _ i _=>k-(intOf i).toNat)
     case atStart=>exact⟨0,La _,rfl,by show _=_;simp,Below.refl _ _⟩
     case round=>
      obtain⟨m,hm,rfl,C,l⟩:=hrel;have X:=u.out.1.later l;have x0:=X.cell 0;simp only[Nc,Cc]at x0;have hXl:=aA X;clear X;by_cases hmk:m<k
      ·obtain⟨b',o',e',hb',d0,d1⟩:=(HF.out.later (nA u.out.2 l)).at (i:=m) (by omega)
       simp only[Pa,Addr.mk.injEq,Yb]at e';obtain⟨rfl,rfl⟩:=e';have hT1:(c.take k).any (fun x=>nQ x lk)=true\/nQ c[m] lk=false:=by
        cases hq:nQ c[m] lk with
        |false=>exact Ja rfl
        |true=>
         left;rw[Tf];refine⟨c[m],?_,hq⟩;rw[List.mem_take_iff_getElem];exact⟨m,by omega,rfl⟩
       have HT1:Hid _:=hT1;have HQ:Hid _:=HSN.out c[m];have HT2:Hid (nQ c[m] lk=false->((c.take (m+1)).any fun x=>nQ x lk)=false):=fun h=>by rw[Ma (by omega),Dg,C.out];simp[h]
       clear hT1;generalize c[m]=lm at *;generalize lm.name=O at *;generalize lm.value=va2 at *;by_cases hq:(O.toList==p.toList)=true
       ·have E:Hid (pA c=([],45,k)):=by
         rcases HT1.out with h|h
         ·exact HYES.out h
         ·rw[HQ.out,hq]at h;exact absurd h (by simp)
        go_wp2;refine bodyPost_ret (v:=.tuple #[.slice (some ⟨w.heap.size,0,none⟩) 0 0,.int .i64 45,.int .i64 k]) (by simp[results,results122,go_sem]) rfl ?_;rw[E.out];exact⟨_,_,rfl,Ka _,Ca rfl,nA (nA u.out.2 l) (cA _ _)⟩
       ·have hq':(O.toList==p.toList)=false:=by simpa using hq
        have E:Hid _:=HT2.out (by rw[HQ.out];exact hq');clear hq;go_wp2;exact⟨⟨m+1,by omega,by go_num,E.out,nA l (cA _ _)⟩,by simp[intOf];omega⟩
      ·have Y:m=k:=by omega
       have E:Hid _:=HNO.out (by rw[<-Y];exact C.out);subst Y;go_wp2;exact⟨⟨m+1,by omega,by go_num,E.out,nA u.out.2 l⟩,by simp[intOf];omega⟩
    ·have HN2:Hid (uD [] c 0=none):=by
      show _=_;rw[t.out,Ac (by omega)];rfl
     clear t;go_wp2;clear j hk;go_loopw [13,14,16,17,72] (fun out me _ _ i wr=>∃(k:Nat) (f:List mA) (T cv:Nat) (L:Bool),k<=c.length/\f.length<=k/\Hid (mF [] c=mF f (c.drop k)/\L=gU (c.take k))/\i=.int .i64 k/\out=.slice (some ⟨T,0,none⟩) f.length cv/\me=.bool L/\Hid (wr.ownsRow w.heap.size 156 2 (.slice (some ⟨T,0,none⟩) f.length cv) f.length (aB f))/\Below w.heap.size w wr) (fun _ _ _ _ i _=>c.length-(intOf i).toNat)
     case atStart=>
      exact⟨0,[],_,_,false,La _,La _,⟨rfl,by simp[gU]⟩,rfl,rfl,rfl,kX (World.ownsRow_made wr #[] 0 (Ka _) (by simp[maxLen]) (by simp)) d.size,nA d (cA _ _)⟩
     case round=>
      clear d;obtain⟨k,f,T,cv,L,hk,hy,t,rfl,rfl,rfl,n,d⟩:=hrel;have hsz:=d.size;by_cases j:k<c.length
      ·obtain⟨b,o,rfl,hb,c0,c1⟩:=(HF.out.later d).at j;have F:=YM f c k j;have C:=om c k j;have hE:=YS c[k];have hMN:eM c[k]=(c[k].name.toList==[95,95,110,97,109,101,95,95]):=by rw[eM,show LH.toList=[95,95,110,97,109,101,95,95] by rw[LH,ByteArray.toList_eq]]
       by_cases D:eR c[k]=true
       ·have E:Hid (mF [] c=mF f (c.drop (k+1))/\L=gU (c.take (k+1))):=by
         refine⟨?_,?_⟩
         ·rw[t.out.1,F,Qa D]
         ·rw[C,D,t.out.2];simp
        have heb:c[k].value.toList.isEmpty=true:=by rw[<-hE];exact D
        clear F C D hE hMN;generalize c[k].name=p at *;generalize c[k].value=r at *;go_wp2;exact⟨⟨k+1,f,T,cv,L,by omega,by omega,E.out,by go_num,rfl,rfl,vA n.out (cA _ _),nA d (cA _ _)⟩,by simp[intOf];omega⟩
       ·have E:Hid (mF [] c=mF (aO c[k] f) (c.drop (k+1))/\(L||eM c[k])=gU (c.take (k+1))):=by
         refine⟨?_,?_⟩
         ·rw[t.out.1,F,Oa D]
         ·have he':eR c[k]=false:=by simpa using D
          rw[C,he',t.out.2];simp
        have heb:c[k].value.toList.isEmpty=false:=by rw[<-hE];simpa using D
        have HMN:Hid _:=hMN;have HLK:Hid (∀x,sJ x c[k]=Op.bytesLess x.name.toList c[k].name.toList):=fun x=>rfl;have HFL:Hid (aB [c[k]]=[.string c[k].name,.string c[k].value]):=rfl;clear F C D hE hMN;generalize c[k]=lk at *;generalize lk.name=p at *;generalize lk.value=r at *;have u:Hid (eA (wr.alloc (.cells #[.string p,.string r] 156)) wr.heap.size #[.string p,.string r] 156):=heap_alloc_new _ _;have H:Hid ((wr.alloc (.cells #[.string p,.string r] 156)).ownsRow w.heap.size 156 2 (.slice (some ⟨T,0,none⟩) f.length cv) f.length (aB f)):=vA n.out (cA _ _);have HBW:Hid (Below w.heap.size w (wr.alloc (.cells #[.string p,.string r] 156))/\w.heap.size<=wr.heap.size/\T<wr.heap.size):=⟨nA d (cA _ _),hsz,by
         rcases n.out.2 with⟨D,_⟩|⟨g',cap',cur,D,_,hb,_⟩
         ·simp at D
         ·simp only[Value.slice.injEq,Pa,Addr.mk.injEq,Yb]at D;rw[D.1];exact aA hb⟩
        cases L
        all_goals
         go_wp2;generalize wr.alloc (.cells #[.string p,.string r] 156)=W at *;clear n d hsz hb c0 c1;generalize wr.heap.size=Q at *;clear wr;go_loopw [17] (fun b0 wr=>∃m:Nat,m<=f.length/\b0=.int .i64 m/\Hid (cV lk f=m+cV lk (f.drop m))/\Below W.heap.size W wr) (fun b0 _=>f.length-(intOf b0).toNat)
         case atStart=>exact⟨0,La _,rfl,by show _=_;simp,Below.refl _ _⟩
         case round=>
          obtain⟨m,hm,rfl,C,d⟩:=hrel;have X:=u.out.later d;have x0:=X.cell 0;have x1:=X.cell 1;simp only[Nc,Cc,Ia]at x0 x1;have y0:=fB.cells x0;have hne:=fB.there wr;have HX:Hid (eA wr Q #[.string p,.string r] 156):=X;clear X x0 x1;have hcs:(∃h:m<f.length,sJ f[m] lk=true/\cV lk f=m+1+cV lk (f.drop (m+1)))\/(¬(m:Int)<(f.length:Int)\/∃h:m<f.length,sJ f[m] lk=false)/\cV lk f=m:=by
           by_cases q:m<f.length
           ·have HPS:=pe lk f m q;cases s:sJ f[m] lk
            ·exact Ja ⟨Ja ⟨q,s⟩,by rw[C.out,HPS,Oa (by rw[s];simp)];rfl⟩
            ·exact Ca ⟨q,s,by rw[C.out,HPS,Qa s];omega⟩
           ·exact Ja ⟨Ca (by omega),by rw[C.out,Ac (by omega)];simp[cV]⟩
          have y:=bA fun(q:m<f.length)=>fB.cells ((cG (vA H.out d)).2.2.2 (m*2) _ (FJ f m q));rcases hcs with⟨q,s,h2⟩|⟨hx,h2⟩
          ·have E2:=bA h2;have y2:=y.out q;have hm1:(m:Int)<(f.length:Int):=by omega
           have hm00:(0:Int)<=(m:Int):=by omega
           rw[HLK.out]at s;clear y h2 C;generalize f[m].name=O at *;go_wp2_with fail;refine eB (by kernel_rfl) (by kernel_rfl) ?_;repeat (go_big_quiet_step (fail))
           refine wpQuiet_nil ?_;rintro _ ⟨x,rfl⟩;have HXB:Hid _:=nA d x.h;clear y0 y2 hne;generalize x.w'=g at *;clear x;go_wp2;exact⟨⟨m+1,by omega,by go_num,E2.out,HXB.out⟩,by simp[intOf];omega⟩
          have E2:=bA h2;have hm00:(0:Int)<=(m:Int):=by omega
          clear h2 C;rcases hx with hml'|⟨q,s⟩
          have hml0:¬m<f.length:=by omega
          rotate_left;have y2:=y.out q;have hm1:(m:Int)<(f.length:Int):=by omega
          rw[HLK.out]at s;generalize f[m].name=O at *;all_goals
           go_wp2_with fail;refine eB (by kernel_rfl) (by kernel_rfl) ?_;repeat (go_big_quiet_step (fail))
           refine wpQuiet_nil ?_;rintro _ ⟨x,rfl⟩;try clear y2
           have hx:=x.h;clear y0 hne y;generalize x.w'=g at *;clear x;have G:Hid _:=nA d hx;have R:Hid _:=nA HBW.out.1 G.out;obtain⟨hcv,hg2,-,hrc⟩:=cG (vA H.out G.out);have a0:=bA hrc;have M:=HX.out.later hx;have x0:g.cell? ⟨Q,0,none⟩=some (.string p):=M.cell 0;have x1:g.cell? ⟨Q,1,none⟩=some (.string r):=M.cell 1;have U:=aA M;have hmc:(m:Int)<=(cv:Int):=by omega
           have hmn:(m:Int)<=(f.length:Int):=by omega
           have A:Hid (∀P,Below g.heap.size g P->P.cell? ⟨Q,0,none⟩=some (.string p)/\P.cell? ⟨Q,1,none⟩=some (.string r)):=fun P h=>⟨(h.cell U).trans x0,(h.cell U).trans x1⟩
           have hL1:(aB (f.take m)).length=m*2:=by rw[lF,Hb];omega
           have hL2:(aB (f.drop m)).length=(f.length-m)*2:=by rw[lF,Ad]
           clear hx d HX H u M hrc;go_upto_region 33 with fail;go_region_held3 (fun P=>P.cell? ⟨Q,0,none⟩=some (.string p)/\P.cell? ⟨Q,1,none⟩=some (.string r))
            (first|go_keep|exact A.out _ k7|exact A.out _ k6|exact A.out _ (N.alloc N.size _)|exact A.out _ N|exact A.out _ (ER g _)|exact A.out _ (EU g _ _))
            (first
             |(refine kP (by rfl) _ _ (by rfl) underlying123 vP rfl (by omega) (by omega) (B:=g.heap.size) (by rfl) (by exact hown6) _ (by rfl) hL2 (by exact ce (lV a0.out hg2 k6) m hcv) (uP _) (by omega) (by exact k6.size) ?_;intro g7 S w7 I hB7 hk7 _;have k7:=k6.trans hB7)
             |(refine kP (by rfl) _ _ (by rfl) underlying123 vP rfl (by omega) (by omega) (B:=g.heap.size) (by rfl) (by first|exact z|exact vA z (cA _ _)) [.string p,.string r] (by rfl) rfl (by first|exact VN (heap_alloc_new _ _)|exact VN ((hk5 _ (by simp) (by omega)).trans (ku g _ _))|exact VN ((hk5 _ (by simp;omega) (by omega)).trans (kv g _ _))) (by simp[Value.oneCell']) (by omega) (by first|exact N.size|exact(N.alloc N.size _).size) ?_;intro g6 cap6 w6 hown6 hB6 hk6 _;have k6:Below g.heap.size g w6:=(by first|exact N.trans hB6|exact(N.alloc N.size _).trans hB6))
             |(refine kP (by rfl) _ _ (by rfl) underlying123 vP rfl (by omega) (by omega) (B:=g.heap.size) (by rfl) (by first|exact aFj g _|exact aFk g _ _|exact aFl g _ _) _ (by rfl) hL1 (by first|exact cc (lV a0.out hg2 (ER g _)) m|exact cc (lV a0.out hg2 (EU g _ _)) m) (uP _) (by omega) (by first|exact(ER g _).size|exact(EU g _ _).size) ?_;intro g5 cap5 w5 z hB5 hk5 _;have N:Below g.heap.size g w5:=(by first|exact(ER g _).trans hB5|exact(EU g _ _).trans hB5);simp only[Wa,Nb]at z |-))
           all_goals
            have hl:(aO lk f).length=m+1+(f.length-m):=by rw[UJ];omega
            have HO7:Hid (w7.ownsRow w.heap.size 156 2 (.slice (some ⟨g7,0,none⟩) (aO lk f).length S) (aO lk f).length (aB (aO lk f))):=by
             have hfl:aB (aO lk f)=aB (f.take m)++[.string p,.string r]++aB (f.drop m):=by
              rw[aO,E2.out,eD,show lk::f.drop m=[lk]++f.drop m from rfl,eD,HFL.out,Ld]
             show World.ownsRow _ _ _ _ _ _ _;rw[hl,hfl];exact kX I R.out.size
            have HB7:Hid _:=nA R.out k7;rw[<-hl];have hle7:(aO lk f).length<=k+1:=by omega
            clear I k7 hl;generalize aO lk f=ys7 at *;go_wp2;refine⟨⟨k+1,ys7,g7,S,_,by omega,hle7,⟨E.out.1,?_⟩,by go_num,rfl,rfl,HO7.out,HB7.out⟩,by simp[intOf];omega⟩;have h:=E.out.2;rw[HMN.out]at h;simpa using h
      ·have HE:Hid (mF [] c=f/\L=gU c):=by
        have h:=t.out;rw[Ac (by omega),Ua (by omega)]at h;exact h
       have HR:Hid (gC wr w.heap.size (some ⟨T,0,none⟩) f):=rF n.out;have hcvr:=(cG n.out).1;clear n t;cases L with
       |false=>
        have E:Hid _:=OM J.out HN.out HN2.out HE.out.2.symm;go_wp2;refine bodyPost_ret (v:=.tuple #[.slice (some ⟨w.heap.size,0,none⟩) 0 0,.int .i64 46,.int .i64 0]) (by simp[results,results122,go_sem]) rfl ?_;rw[E.out];exact⟨_,_,rfl,Ka _,Ca rfl,d⟩
       |true=>
        have E:Hid (pA c=(f,0,0)):=by show _=_;rw[WS J.out HN.out HN2.out HE.out.2.symm,HE.out.1]
        go_wp2;refine bodyPost_ret (v:=.tuple #[.slice (some ⟨T,0,none⟩) f.length cv,.int .i64 0,.int .i64 0]) (by simp[results,results122,go_sem]) rfl ?_;rw[E.out];exact⟨_,_,rfl,hcvr,HR.out,d⟩
theorem NN (a:Option Addr) (c:Nat) (b:List mA) (w:World) (n:sC w a b) (m:JC b) (g:b.length<=2000000) (f:b.length<=c):
 Calls prog 122 #[.slice a b.length c] w fun e h=>JD e w h (pA b).1 (pA b).2.1 (pA b).2.2:=by
 refine(bS a c b w n m g f).mono ?_;rintro e h ⟨i,d,j,_,k,l⟩;exact⟨i,d,j,k,l⟩
