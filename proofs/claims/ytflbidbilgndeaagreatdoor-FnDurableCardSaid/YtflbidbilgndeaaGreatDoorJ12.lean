import Derived.Test.YtflbidbilgndeaaGreatDoorJ08
import Derived.Test.YtflbidbilgndeaaGreatDoorJ09
set_option maxRecDepth 100000
set_option maxHeartbeats 4000000
set_option linter.defProp false
open Option renaming some->bA
open Bool renaming false->cA,true->dA
open List renaming length->yA
namespace Go.Proofs.YtflbidbilgndeaaGreatDoor
open Go renaming World->eA,Value->iA
open Ending renaming returned->uA
open Value renaming tuple->xA,slice->pA,pointer->sA,bool->qA,int->lA
open Obj renaming cells->vA
open IntKind renaming i64->mA
open Go.RowKit Tryz
def LL(a:List dC)(m:Nat)(h:m<yA a):(vC a)[m*2]?=bA (.string a[m].N):=by
 have e:vC a=vC (a.take m)++vC (a.drop m):=by rw[<-cG,Za]
 have b:yA (vC (a.take m))=m*2:=by rw[vG,Hb];omega
 rw[e,Uc (by omega),b,Nat.sub_self,Cb h];rfl
def OL(e:Ending)(w d:eA)(l:List dC)(c i:Nat):Prop:=∃b a,e=uA (xA #[pA b (yA l) a,zA (c:Nat),zA (i:Nat)])/\oE d w.1.size b l/\uB w d
def xl(e:Ending)(w d:eA)(l:List dC)(c i:Nat):Prop:=∃b a,e=uA (xA #[pA b (yA l) a,zA (c:Nat),zA (i:Nat)])/\yA l<=a/\oE d w.1.size b l/\uB w d
theorem DH(a:Option Addr)(e0:Nat)(c:List dC)(w:World)(hf:sD w a c)(hB:sU c)(hlen:c.length<=2000000)(hcap:c.length<=e0):
 Calls prog 112 #[.slice a c.length e0] w λe P=>xl e w P (xB c).1 (xB c).2.1 (xB c).2.2:=by
 have HF:cB (sD w a c):=hf;have HB:cB (sU c):=hB;by_cases h16:16<c.length
 .rw[DW h16];go_enter func112,ntmps112;go_wp2;refine bodyPost_ret (v:=.tuple #[.slice (some ⟨w.1.size,0,none⟩) 0 0,.int .i64 40,.int .i64 0]) (by simp[results,results112,go_sem]) rfl ⟨_,_,rfl,Ia _,Ca rfl,zB⟩
 have J:cB (¬16<c.length):=h16;go_enter func112,ntmps112;go_wp2;go_loopw [6,7,8,25] (λ_ _ _ i wr=>∃k:Nat,k<=c.length/\i=.int .i64 k/\cB (jD c 0=jD (c.drop k) k)/\Below w.1.size w wr) (λ_ _ _ i _=>c.length-(intOf i).toNat)
 case atStart=>exact⟨0,Oa _,rfl,rfl,zB⟩
 case round=>
  obtain⟨k,hk,rfl,t,d⟩:=hrel;by_cases j:k<c.length
  .obtain ⟨b,o,rfl,hb,c0,c1⟩:=(HF.o.z d).at j;obtain⟨hs1,hs2⟩:=HB.o k j;have y:cB _:=λW=>df c[k].N W (by unfold maxLen;omega);have HVL:cB _:=λW=>MU c[k].V W hs2;have F:=CS c k j;have K:cB (∀V,yR c[k]=V->V≠0->xB c=([],V,k)):=λV h h0=>BM J.o (by rw[t.o,F,h,Ja h0]);have Z:cB (yR c[k]=0->jD c 0=jD (c.drop (k+1)) (k+1)):=λh=>by rw[t.o,F,Ma h]
   unfold yR at K Z;generalize c[k].N=p at *;generalize c[k].V=r at *;go_wp2_with fail;refine tD (y.o _) ?_;cases hnm:RO p
   .have E:=bB (K.o 41 (by rw[hnm];rfl) (by omega));go_wp2;refine bodyPost_ret (v:=.tuple #[.slice (some ⟨w.1.size,0,none⟩) 0 0,.int .i64 41,.int .i64 k]) (by simp[results,results112,go_sem]) rfl ?_;rw[E.o];exact⟨_,_,rfl,Ia _,Ca rfl,vB d zB⟩
   rw[hnm,Ma rfl]at K Z;go_wp2_with fail;refine(HVL.o _).mono ?_;rintro e w2 ⟨rfl,hb2⟩;have G:cB _:=vB (vB d zB) hb2;generalize qP r=V at *;by_cases h0:V=0
   .have E:=bB (Z.o h0);subst h0;go_wp2;exact⟨⟨k+1,by omega,by go_num,E.o,G.o⟩,by simp[intOf];omega⟩
   .have E:=bB (K.o V rfl h0);have h0b:((V:Int) != 0)=true:=by simp;omega
    go_wp2;refine bodyPost_ret (v:=.tuple #[.slice (some ⟨w.1.size,0,none⟩) 0 0,.int .i64 V,.int .i64 k]) (by simp[results,results112,go_sem]) rfl ?_;rw[E.o];exact⟨_,_,rfl,Ia _,Ca rfl,G.o⟩
  .have HN:cB (jD c 0=none):=by
    show _=_;rw[t.o,Yb (by omega)];rfl
   go_wp2;go_loopw [9,10,12,47,54,55,56] (λ_ _ _ i _ _ _ wr=>∃k:Nat,k<=c.length/\i=.int .i64 k/\cB (pF [] c 0=pF (c.take k) (c.drop k) k)/\Below w.1.size w wr) (λ_ _ _ i _ _ _ _=>c.length-(intOf i).toNat)
   case atStart=>exact⟨0,Oa _,rfl,rfl,d⟩
   case round=>
    obtain⟨k,hk,rfl,t,d⟩:=hrel;by_cases j:k<c.length
    .obtain ⟨b,o,rfl,hb,c0,c1⟩:=(HF.o.z d).at j;have F:=GJ c k j;have hk0:(0:Int)<=(k:Int):=by omega
     have hkc:(k:Int)<=(e0:Int):=by omega
     have HYES:cB _:=λh=>nZ J.o HN.o (by rw[t.o,F,Ma h]);have HNO:cB (((c.take k).any λx=>iS x c[k])=false->pF [] c 0=pF (c.take (k+1)) (c.drop (k+1)) (k+1)):=λh=>by rw[t.o,F,Ja (by rw[h];simp)]
     have HSN:cB (∀x,iS x c[k]=(x.N.toList==c[k].N.toList)):=λx=>rfl;generalize hlk:c[k]=lk at *;generalize lk.N=p at *;generalize lk.V=r at *;have u:cB (nB (wr.alloc (.cells #[.string p,.string r] 181)) wr.1.size #[.string p,.string r] 181/\Below w.1.size w (wr.alloc (.cells #[.string p,.string r] 181))):=⟨heap_alloc_new _ _,vB d zB⟩
     go_wp2;generalize wr.alloc (.cells #[.string p,.string r] 181)=W at *;generalize wr.1.size=Q at *;go_loopw [12,56] (λ_ i wr=>∃m:Nat,m<=k/\i=.int .i64 m/\cB (((c.take m).any λx=>iS x lk)=false)/\Below W.1.size W wr) (λ_ i _=>k-(intOf i).toNat)
     case atStart=>exact⟨0,Oa _,rfl,by show _=_;simp,iD⟩
     case round=>
      obtain⟨m,hm,rfl,C,l⟩:=hrel;have X:=u.o.1.z l;have x0:=X.cell 0;simp only[Xb,Ob]at x0;have hXl:=aB X;by_cases hmk:m<k
      .obtain ⟨b',o',e',hb',d0,d1⟩:=(HF.o.z (vB u.o.2 l)).at (i:=m) (by omega)
       simp only[Qa,Addr.mk.injEq,Cc]at e';obtain⟨rfl,rfl⟩:=e';have hT1:(c.take k).any (λx=>iS x lk)=true\/iS c[m] lk=false:=by
        cases hq:iS c[m] lk with
        |false=>exact La rfl
        |true=>
         left;rw[Zd];refine⟨c[m],?_,hq⟩;rw[List.mem_take_iff_getElem];exact⟨m,by omega,rfl⟩
       have HT1:cB _:=hT1;have HQ:cB _:=HSN.o c[m];have HT2:cB (iS c[m] lk=false->((c.take (m+1)).any λx=>iS x lk)=false):=λh=>by rw[Pa (by omega),Tf,C.o];simp[h]
       generalize c[m]=lm at *;generalize lm.N=O at *;generalize lm.V=va2 at *;by_cases hq:(O.toList==p.toList)=true
       .have E:cB (xB c=([],45,k)):=by
         obtain h|h:=HT1.o
         .exact HYES.o h
         .rw[HQ.o,hq]at h;exact absurd h (by simp)
        go_wp2;refine bodyPost_ret (v:=.tuple #[.slice (some ⟨w.1.size,0,none⟩) 0 0,.int .i64 45,.int .i64 k]) (by simp[results,results112,go_sem]) rfl ?_;rw[E.o];exact⟨_,_,rfl,Ia _,Ca rfl,vB (vB u.o.2 l) zB⟩
       .have hq':(O.toList==p.toList)=false:=by simpa using hq
        have E:cB _:=HT2.o (by rw[HQ.o];exact hq');go_wp2;exact⟨⟨m+1,by omega,by go_num,E.o,vB l zB⟩,by simp[intOf];omega⟩
      .have Y:m=k:=by omega
       have E:cB _:=HNO.o (by rw[<-Y];exact C.o);subst Y;go_wp2;exact⟨⟨m+1,by omega,by go_num,E.o,vB u.o.2 l⟩,by simp[intOf];omega⟩
    .have HN2:cB (pF [] c 0=none):=by
      show _=_;rw[t.o,Yb (by omega)];rfl
     go_wp2;go_loopw [13,14,16,17,72] (λout me _ _ i wr=>∃(k:Nat)(f:List dC)(T cv:Nat)(L:Bool),k<=c.length/\f.length<=k/\cB (iG [] c=iG f (c.drop k)/\L=pS (c.take k))/\i=.int .i64 k/\out=.slice (some ⟨T,0,none⟩) f.length cv/\me=.bool L/\cB (wr.ownsRow w.1.size 181 2 (.slice (some ⟨T,0,none⟩) f.length cv) f.length (vC f))/\Below w.1.size w wr) (λ_ _ _ _ i _=>c.length-(intOf i).toNat)
     case atStart=>
      exact⟨0,[],_,_,false,Oa _,Oa _,⟨rfl,by simp[pS]⟩,rfl,rfl,rfl,qI (World.ownsRow_made wr #[] 0 (Ia _) (by simp[maxLen]) (by simp)) d.size,vB d zB⟩
     case round=>
      obtain⟨k,f,T,cv,L,hk,hy,t,rfl,rfl,rfl,n,d⟩:=hrel;have hsz:=d.size;by_cases j:k<c.length
      .obtain ⟨b,o,rfl,hb,c0,c1⟩:=(HF.o.z d).at j;have F:=iz f c k j;have C:=aBh c k j;have hE:=jh c[k];have hMN:sP c[k]=(c[k].N.toList==[95,95,110,97,109,101,95,95]):=by rw[sP,show RT.toList=[95,95,110,97,109,101,95,95] by rw[RT,ByteArray.toList_eq]]
       by_cases D:wT c[k]=true
       .have E:cB (iG [] c=iG f (c.drop (k+1))/\L=pS (c.take (k+1))):=by
         refine⟨?_,?_⟩
         .rw[t.o.1,F,Ma D]
         .rw[C,D,t.o.2];simp
        have heb:c[k].V.toList.isEmpty=true:=by rw[<-hE];exact D
        generalize c[k].N=p at *;generalize c[k].V=r at *;go_wp2;exact⟨⟨k+1,f,T,cv,L,by omega,by omega,E.o,by go_num,rfl,rfl,hC n.o zB,vB d zB⟩,by simp[intOf];omega⟩
       .have E:cB (iG [] c=iG (nR c[k] f) (c.drop (k+1))/\(L||sP c[k])=pS (c.take (k+1))):=by
         refine⟨?_,?_⟩
         .rw[t.o.1,F,Ja D]
         .have he':wT c[k]=false:=by simpa using D
          rw[C,he',t.o.2];simp
        have heb:c[k].V.toList.isEmpty=false:=by rw[<-hE];simpa using D
        have HMN:cB _:=hMN;have HLK:cB (∀x,tP x c[k]=Op.bytesLess x.N.toList c[k].N.toList):=λx=>rfl;have HFL:cB (vC [c[k]]=[.string c[k].N,.string c[k].V]):=rfl;generalize c[k]=lk at *;generalize lk.N=p at *;generalize lk.V=r at *;have u:cB (nB (wr.alloc (.cells #[.string p,.string r] 181)) wr.1.size #[.string p,.string r] 181):=heap_alloc_new _ _;have H:cB ((wr.alloc (.cells #[.string p,.string r] 181)).ownsRow w.1.size 181 2 (.slice (some ⟨T,0,none⟩) f.length cv) f.length (vC f)):=hC n.o zB;have HBW:cB (Below w.1.size w (wr.alloc (.cells #[.string p,.string r] 181))/\w.1.size<=wr.1.size/\T<wr.1.size):=⟨vB d zB,hsz,by
         obtain⟨D,_⟩|⟨g',cap',cur,D,_,hb,_⟩:=n.o.2
         .simp at D
         .simp only[Value.slice.injEq,Qa,Addr.mk.injEq,Cc]at D;rw[D.1];exact aB hb⟩
        cases L
        all_goals
         go_wp2;generalize wr.alloc (.cells #[.string p,.string r] 181)=W at *;generalize wr.1.size=Q at *;go_loopw [17] (λb0 wr=>∃m:Nat,m<=f.length/\b0=.int .i64 m/\cB (dZ lk f=m+dZ lk (f.drop m))/\Below W.1.size W wr) (λb0 _=>f.length-(intOf b0).toNat)
         case atStart=>exact⟨0,Oa _,rfl,by show _=_;simp,iD⟩
         case round=>
          obtain⟨m,hm,rfl,C,d⟩:=hrel;have X:=u.o.z d;have x0:=X.cell 0;have x1:=X.cell 1;simp only[Xb,Ob,Ga]at x0 x1;have y0:=kC.cells x0;have hne:=kC.there wr;have HX:cB (nB wr Q #[.string p,.string r] 181):=X;have hcs:(∃h:m<f.length,tP f[m] lk=true/\dZ lk f=m+1+dZ lk (f.drop (m+1)))\/(¬(m:Int)<(f.length:Int)\/∃h:m<f.length,tP f[m] lk=false)/\dZ lk f=m:=by
           by_cases q:m<f.length
           .have HPS:=aBu lk f m q;cases s:tP f[m] lk
            .exact La ⟨La ⟨q,s⟩,by rw[C.o,HPS,Ja (by rw[s];simp)];rfl⟩
            .exact Ca ⟨q,s,by rw[C.o,HPS,Ma s];omega⟩
           .exact La ⟨Ca (by omega),by rw[C.o,Yb (by omega)];simp[dZ]⟩
          have y:=bB fun(q:m<f.length)=>kC.cells ((aL (hC H.o d)).2.2.2 (m*2) _ (LL f m q));obtain⟨q,s,h2⟩|⟨hx,h2⟩:=hcs
          .have E2:=bB h2;have y2:=y.o q;have hm1:(m:Int)<(f.length:Int):=by omega
           have hm00:(0:Int)<=(m:Int):=by omega
           rw[HLK.o]at s;generalize f[m].N=O at *;go_wp2_with fail;refine wB (by kernel_rfl) (by kernel_rfl) ?_;repeat (go_big_quiet_step (fail))
           refine wpQuiet_nil ?_;rintro _ ⟨x,rfl⟩;have HXB:cB _:=vB d x.h;generalize x.w'=g at *;go_wp2;exact⟨⟨m+1,by omega,by go_num,E2.o,HXB.o⟩,by simp[intOf];omega⟩
          have E2:=bB h2;have hm00:(0:Int)<=(m:Int):=by omega
          obtain hml'|⟨q,s⟩:=hx
          have hml0:¬m<f.length:=by omega
          rotate_left;have y2:=y.o q;have hm1:(m:Int)<(f.length:Int):=by omega
          rw[HLK.o]at s;generalize f[m].N=O at *;all_goals
           go_wp2_with fail;refine wB (by kernel_rfl) (by kernel_rfl) ?_;repeat (go_big_quiet_step (fail))
           refine wpQuiet_nil ?_;rintro _ ⟨x,rfl⟩;try clear y2
           have hx:=x.h;generalize x.w'=g at *;have G:cB _:=vB d hx;have R:cB _:=vB HBW.o.1 G.o;obtain⟨hcv,hg2,-,hrc⟩:=aL (hC H.o G.o);have a0:=bB hrc;have M:=HX.o.z hx;have x0:g.cell? ⟨Q,0,none⟩=some (.string p):=M.cell 0;have x1:g.cell? ⟨Q,1,none⟩=some (.string r):=M.cell 1;have U:=aB M;have hmc:(m:Int)<=(cv:Int):=by omega
           have hmn:(m:Int)<=(f.length:Int):=by omega
           have A:cB (∀P,Below g.1.size g P->P.cell? ⟨Q,0,none⟩=some (.string p)/\P.cell? ⟨Q,1,none⟩=some (.string r)):=λP h=>⟨(h.cell U).trans x0,(h.cell U).trans x1⟩
           have hL1:(vC (f.take m)).length=m*2:=by rw[vG,Hb];omega
           have hL2:(vC (f.drop m)).length=(f.length-m)*2:=by rw[vG,Rc]
           go_upto_region 33 with fail;go_region_held3 (λP=>P.cell? ⟨Q,0,none⟩=some (.string p)/\P.cell? ⟨Q,1,none⟩=some (.string r))
            (first|go_keep|exact A.o _ k7|exact A.o _ k6|exact A.o _ (N.alloc N.size _)|exact A.o _ N|exact A.o _ (KU g _)|exact A.o _ (KV g _ _))
            (first
             |(refine bT (by rfl) _ _ (by rfl) underlying108 tT rfl (by omega) (by omega) (B:=g.1.size) (by rfl) (by exact hown6) _ (by rfl) hL2 (by exact my (oZ a0.o hg2 k6) m hcv) (pT _) (by omega) (by exact k6.size) ?_;intro g7 S w7 I hB7 hk7 _;have k7:=k6.trans hB7)
             |(refine bT (by rfl) _ _ (by rfl) underlying108 tT rfl (by omega) (by omega) (B:=g.1.size) (by rfl) (by first|exact z|exact hC z zB) [.string p,.string r] (by rfl) rfl (by first|exact dr (heap_alloc_new _ _)|exact dr ((hk5 _ (by simp) (by omega)).trans (xe g _ _))|exact dr ((hk5 _ (by simp;omega) (by omega)).trans (xg g _ _))) (by simp[Value.oneCell']) (by omega) (by first|exact N.size|exact(N.alloc N.size _).size) ?_;intro g6 cap6 w6 hown6 hB6 hk6 _;have k6:Below g.1.size g w6:=(by first|exact N.trans hB6|exact(N.alloc N.size _).trans hB6))
             |(refine bT (by rfl) _ _ (by rfl) underlying108 tT rfl (by omega) (by omega) (B:=g.1.size) (by rfl) (by first|exact aNx g _|exact aNy g _ _|exact aNz g _ _) _ (by rfl) hL1 (by first|exact mx (oZ a0.o hg2 (KU g _)) m|exact mx (oZ a0.o hg2 (KV g _ _)) m) (pT _) (by omega) (by first|exact(KU g _).size|exact(KV g _ _).size) ?_;intro g5 cap5 w5 z hB5 hk5 _;have N:Below g.1.size g w5:=(by first|exact(KU g _).trans hB5|exact(KV g _ _).trans hB5);simp only[Ya,Mb]at z |-))
           all_goals
            have hl:(nR lk f).length=m+1+(f.length-m):=by rw[bf];omega
            have HO7:cB (w7.ownsRow w.1.size 181 2 (.slice (some ⟨g7,0,none⟩) (nR lk f).length S) (nR lk f).length (vC (nR lk f))):=by
             have hfl:vC (nR lk f)=vC (f.take m)++[.string p,.string r]++vC (f.drop m):=by
              rw[nR,E2.o,cG,show lk::f.drop m=[lk]++f.drop m from rfl,cG,HFL.o,Nd]
             show World.ownsRow _ _ _ _ _ _ _;rw[hl,hfl];exact qI I R.o.size
            have HB7:cB _:=vB R.o k7;rw[<-hl];have hle7:(nR lk f).length<=k+1:=by omega
            generalize nR lk f=ys7 at *;go_wp2;refine⟨⟨k+1,ys7,g7,S,_,by omega,hle7,⟨E.o.1,?_⟩,by go_num,rfl,rfl,HO7.o,HB7.o⟩,by simp[intOf];omega⟩;have h:=E.o.2;rw[HMN.o]at h;simpa using h
      .have HE:cB (iG [] c=f/\L=pS c):=by
        have h:=t.o;rw[Yb (by omega),Ra (by omega)]at h;exact h
       have HR:cB (oE wr w.1.size (some ⟨T,0,none⟩) f):=gK n.o;have hcvr:=(aL n.o).1;cases L with
       |false=>
        have E:cB _:=JS J.o HN.o HN2.o HE.o.2.symm;go_wp2;refine bodyPost_ret (v:=.tuple #[.slice (some ⟨w.1.size,0,none⟩) 0 0,.int .i64 46,.int .i64 0]) (by simp[results,results112,go_sem]) rfl ?_;rw[E.o];exact⟨_,_,rfl,Ia _,Ca rfl,d⟩
       |true=>
        have E:cB (xB c=(f,0,0)):=by show _=_;rw[OZ J.o HN.o HN2.o HE.o.2.symm,HE.o.1]
        go_wp2;refine bodyPost_ret (v:=.tuple #[.slice (some ⟨T,0,none⟩) f.length cv,.int .i64 0,.int .i64 0]) (by simp[results,results112,go_sem]) rfl ?_;rw[E.o];exact⟨_,_,rfl,hcvr,HR.o,d⟩
def UY(a:mC)(c:Nat)(b:List dC)(w:eA)(n:sD w a b)(m:sU b)(g:yA b<=2000000)(f:yA b<=c):
 Calls prog 112 #[pA a (yA b) c] w λe h=>OL e w h (xB b).1 (xB b).2.1 (xB b).2.2:=by
 refine(DH a c b w n m g f).mono ?_;rintro e h ⟨i,d,j,_,k,l⟩;exact⟨i,d,j,k,l⟩
def aQe(a:Array iA)(c:List zI):Prop:=∀k,k<yA c->a[k*2]?=bA (.pointer (yB ((nD c k).b)))/\a[k*2+1]?=bA (zA (nD c k).t)
def tH(w:eA)(g a:Nat)(hs:List zI):Prop:=∃b,nB w g b 334/\b.size=a*2/\yA hs<=a/\a<=maxLen/\aQe b hs
def tH.cells{w:eA}{g d k:Nat}{c:List zI}(h:tH w g d c)(f:k<yA c):
 w.cell? (dB g (k*2))=bA (.pointer (yB ((nD c k).b)))/\w.cell? (dB g (k*2+1))=bA (zA (nD c k).t)/\w.frozen? (dB g (k*2))=cA/\w.frozen? (dB g (k*2+1))=cA:=by
 obtain⟨i,a,_,_,_,e⟩:=h;rw[a.cell,a.cell];exact⟨(e k f).1,(e k f).2,a.free _,a.free _⟩
def tH.z{w d:eA}{g a:Nat}{c:List zI}(h:tH w g a c)(i:uB w d):tH d g a c:=by
 obtain⟨b,e,f⟩:=h;exact⟨b,e.z i,f⟩
def tH.lt{w:eA}{g a:Nat}{d:List zI}(h:tH w g a d):g<w.1.size:=by
 obtain⟨b,c,e⟩:=h;exact aB c
def tH.swap{w:eA}{g c i j:Nat}{a:List zI}(h:tH w g c a)(u:i<yA a)(v:j<yA a):
 tH ((((w.setCell (dB g (i*2)) (.pointer (yB ((nD a j).b)))).setCell (dB g (i*2+1)) (zA (nD a j).t)).setCell (dB g (j*2)) (.pointer (yB ((nD a i).b)))).setCell (dB g (j*2+1)) (zA (nD a i).t)) g c (eH a i j):=by
 obtain⟨o,p,d,q,r,s⟩:=h;refine⟨_,(((p.set _ _).set _ _).set _ _).set _ _,by simp[d],by rw[pD];exact q,r,λk l=>?_⟩;rw[pD]at l;rw[gJ u v];by_cases e:k=j
 .subst e;rw[Ma rfl];constructor<;>simp[Eb,d]<;>omega
 rw[Ja e];by_cases f:k=i
 .subst f;rw[Ma rfl];constructor
  .rw[Ea (by omega),Ea (by omega),Ea (by omega)];simp[Eb,d];omega
  rw[Ea (by omega),Ea (by omega)];simp[Eb,d];omega
 rw[Ja f];obtain⟨m,n⟩:=s k l;constructor;rw[Ea (by omega),Ea (by omega),Ea (by omega),Ea (by omega)];exact m;rw[Ea (by omega),Ea (by omega),Ea (by omega),Ea (by omega)];exact n
def TD(x o g n h i j:Nat)(f:List zI)(w:eA)(N:w.cell? (dB x o)=bA (pA (yB g) n h))(y:n=yA f)(l:tH w g h f)(L:i<n)(M:j<n):
 Calls prog 298 #[sA (bA (dB x o)),zA i,zA j] w λe r=>e=uA (xA #[])/\tH r g h (eH f i j)/\qD g w r:=by
 have p:cB (tH ((((w.setCell (dB g (i*2)) (.pointer (yB ((nD f j).b)))).setCell (dB g (i*2+1)) (zA (nD f j).t)).setCell (dB g (j*2)) (.pointer (yB ((nD f i).b)))).setCell (dB g (j*2+1)) (zA (nD f i).t)) g h (eH f i j)):=l.swap (by omega) (by omega);obtain⟨z,B,c,d⟩:=l.cells (k:=i) (by omega);obtain⟨D,E,O,P⟩:=l.cells (k:=j) (by omega);have q:∀(a b:iA),(∃v,((w.setCell (dB g (i*2)) a).setCell (dB g (i*2+1)) b).cell? (dB g (j*2))=bA v)/\(∃v,((w.setCell (dB g (i*2)) a).setCell (dB g (i*2+1)) b).cell? (dB g (j*2+1))=bA v)/\
  ((w.setCell (dB g (i*2)) a).setCell (dB g (i*2+1)) b).frozen? (dB g (j*2))=cA/\((w.setCell (dB g (i*2)) a).setCell (dB g (i*2+1)) b).frozen? (dB g (j*2+1))=cA:=λa b=>by
  obtain⟨s,u,J,K,_⟩:=l;have m:=(u.set (i*2) a).set (i*2+1) b;exact⟨m.there (by simp;omega),m.there (by simp;omega),m.free _,m.free _⟩
 obtain⟨⟨Q,F⟩,⟨S,G⟩,H,I⟩:=q (.pointer (yB ((nD f j).b))) (zA (nD f j).t);clear y l q;generalize nD f i=A at *;generalize nD f j=C at *;generalize eH f i j=R at *;clear f;go_enter func298,ntmps298;go_wp2_with fail;go_region
 go_wp2;go_end0;exact⟨rfl,p.o,(((((qD.refl g w).setCell _ _).setCell _ _).setCell _ _).setCell _ _).drew⟩
def qK(a:List zI):List iA:=a.flatMap λx=>[.pointer (yB x.b),zA x.t]
def ZZ(a b:List zI):qK (a++b)=qK a++qK b:=by simp[qK]
def GK(a:List zI):yA (qK a)=yA a*2:=by
 induction a with
 |nil=>rfl
 |cons x r b=>simp[qK]at b |-;omega
def JU:∀(a:List zI)(k:Nat),k<yA a->(qK a)[k*2]?=bA (.pointer (yB ((nD a k).b)))/\(qK a)[k*2+1]?=bA (zA (nD a k).t)
 |[],k,h=>absurd h (by simp)
 |x::r,0,_=>⟨rfl,rfl⟩
 |x::r,k+1,h=>by
  have c:=JU r k (by simpa using h);have e:qK (x::r)=.pointer (yB x.b):: zA x.t::qK r:=rfl;rw[e,show(k+1)*2=k*2+1+1 by omega,Ga,Ga,Ga,Ga];exact c
def GM{w:eA}{B g n a:Nat}{c:List zI}(h:w.ownsRow B 334 2 (pA (yB g) n a) n (qK c))(u:n=yA c):tH w g a c/\B<=g:=by
 obtain⟨e,_⟩|⟨s,d,b,e,o,p,t,i,l,m⟩:=h.2;simp at e;simp only[iA.slice.injEq,Qa,Addr.mk.injEq,Cc,true_and]at e;obtain⟨rfl,rfl⟩:=e;refine⟨⟨b,p,l,by omega,i,λk r=>?_⟩,o⟩;have f:∀j,j<n*2->b[j]?=(qK c)[j]?:=λj q=>by rw[<-m,Jb q,Yd]
 rw[f _ (by omega),f _ (by omega)];exact JU c k r
def hY{w:eA}{B g a:Nat}{b:List zI}(h:tH w g a b)(m:B<=g):w.ownsRow B 334 2 (pA (yB g) (yA b) a) (yA b) (qK b):=by
 obtain⟨c,d,f,i,k,l⟩:=h;refine⟨GK b,La ⟨g,a,c,rfl,m,d,i,k,f,?_⟩⟩;apply List.ext_getElem?;intro j;by_cases n:j<yA b*2
 .rw[Jb n,Yd];obtain⟨o,p⟩:=l (j / 2) (by omega);obtain⟨q,r⟩:=JU b (j / 2) (by omega);rcases Nat.mod_two_eq_zero_or_one j with e|e
  .have:j=j / 2*2:=by omega
   rw[this,o,q]
  have:j=j / 2*2+1:=by omega
  rw[this,p,r]
 rw[Fd (by simp;omega),Fd (by rw[GK];omega)]
def qj:(prog.info? 334).map (λi=>(i.zero,i.size,i.bytes))=bA (bA (.agg #[sA none,zA 0]),2,16):=by kernel_rfl
def DT(p q:iA)(s t:Int)(w:eA):dF 388 #[.agg #[p,zA s],.agg #[q,zA t]] w (qA (decide (s<t))):=by
 go_enter func388,ntmps388;go_wp2;go_ret;exact⟨rfl,vB zB zB⟩
def zX(x y : Value)(w : World) : (invoke (.fn (.method "loop.example/s02176/impl.before") #[]) #[.iface 334 x, y]).run prog w = .ok (.enter 388 #[x, y]) w := by kernel_rfl
def uZ{P:Program}(ρ:Operand->iA)(o:Oper)(r y:Operand)(name:String)(d:Array TypeId)(a:o.op=.call { callee:=.invoke r name,args:=#[y],argTypes:=d}){u z:iA}(b:ρ r=u)(c:ρ y=z){n:Next}{w:eA}
(h:(invoke (.fn (.method name) #[]) #[u,z]).run P w=.ok n w):(execOp ρ o).run P w=.ok n w:=by
 unfold execOp;simp only[a,resolve];simp[b,c,h]
def ln(x o B:Nat)(v:iA)(j:List zI)(s:zI)(w:eA)(G:Array iA)(M:TypeId)(h:nB w x G M)(Z:G[o]?=bA v)(O:w.ownsRow B 334 2 v (yA j) (qK j))(E:v.ownBlock≠bA x)(b:B<=w.1.size)(b:yA j<=1000000000):
 Calls prog 263 #[sA (bA (dB x o)),.agg #[.pointer (yB s.b),zA s.t]] w λe w'=>e=uA (xA #[])/\∃g f,nB w' x (G.setIfInBounds o (pA (yB g) (yA j+1) f)) M/\
  w'.ownsRow B 334 2 (pA (yB g) (yA j+1) f) (yA j+1) (qK (gS j s))/\(v.ownBlock=bA g\/w.1.size<=g)/\eB (λk=>k=x\/v.ownBlock=bA k) w w':=by
 obtain⟨J,hi,b,t,U⟩:=info_parts qj;have c0:w.cell? (dB x o)=bA v:=by rw[h.cell];exact Z
 have I:=aB h;have HX:cB (nB w x G M):=h;clear h;have W:cB (((w.alloc (vA #[.pointer (yB s.b),zA s.t] 334)).alloc (vA #[.pointer (yB s.b),zA s.t] 334)).ownsRow B 334 2 v (yA j) (qK j)):=bB ((O.alloc _).alloc _);have Y:cB (((w.alloc (vA #[.pointer (yB s.b),zA s.t] 334)).alloc (vA #[.pointer (yB s.b),zA s.t] 334)).heap[w.1.size+1]?=bA (vA #[.pointer (yB s.b),zA s.t] 334 (0,0))):=bB (by have:=heap_alloc_new (w.alloc (vA #[.pointer (yB s.b),zA s.t] 334)) (vA #[.pointer (yB s.b),zA s.t] 334);simpa using this);have N:cB (∀p:eA,((w.alloc (vA #[.pointer (yB s.b),zA s.t] 334)).alloc (vA #[.pointer (yB s.b),zA s.t] 334)).grownBy p v.ownBlock->nB p x G M/\eB (λk=>v.ownBlock=bA k) w p):=λp h=>by
  have I:=(eB.of (S:=λk=>v.ownBlock=bA k) (vB (wF w _) zB)).trans' (eB.grown h);exact⟨I.blk HX.o E,I⟩
 clear O;go_enter func263,ntmps263;go_upto_region 1 with fail;go_cut [13] (λ_ I=>∃g f,nB I x (G.setIfInBounds o (pA (yB g) (yA j+1) f)) M/\tH I g f (j++[s])/\B<=g/\(v.ownBlock=bA g\/w.1.size<=g)/\g≠x/\eB (λk=>k=x\/v.ownBlock=bA k) w I)
 case first=>
  go_region_law (refine step_append_lies _ rfl (.tmp 10) (.tmp 12) 224 rfl B 334 J (.agg #[sA none,zA 0]) 2 16 underlying224 hi b t U rfl (by decide) v (yA j) (qK j) (by simp[Act.eval]) (by exact W.o) (dB (w.1.size+1) 0) 1 1 [.pointer (yB s.b),zA s.t] (by simp[Act.eval]) rfl (eA.news_of_block (cs:=#[.pointer (yB s.b),zA s.t]) (by exact Y.o)) (by intro u I;simp at I;rcases I with rfl|rfl<;>rfl) (by omega) (by unfold maxLen;omega) (by omega) (by simp;omega) (w.1.size+1+1) (by simp) ?_;intro g f p I D m J;obtain⟨n,L⟩:=N.o p ⟨D.os,D.tape,D.output,D.size,D.block⟩;have c1:p.cell? (dB x o)=bA v:=(by rw[n.cell];exact Z);have d:=n.free o)
  all_goals(go_wp2_with fail;go_meet)
  all_goals
   have J:p.ownsRow B 334 2 (pA (yB g) (yA j+1) f) (yA j+1) (qK (j++[s])):=by rw[ZZ];exact I
   obtain⟨O,I⟩:=GM J (by simp);have K:g≠x:=by
    obtain h|h:=m
    .exact λe=>E (by rw[<-e];exact h)
    omega
   obtain⟨J,m1,m2⟩:=O;exact⟨g,f,n.set o _,⟨J,m1.but ((qD.refl _ _).setCell _ _) K,m2⟩,I,by obtain h|h:=m;exact Ca h;exact La (by omega),K,eB.setCell (S:=λk=>k=x\/v.ownBlock=bA k) (L.mono λk _ hk=>La hk) (Ca (Ca rfl)) _ _⟩
 obtain⟨g,f,n,O,I,m,K,L⟩:=hcut;rename eA=>p;have R:cB (nB p x (G.setIfInBounds o (pA (yB g) (yA j+1) f)) M):=n;have HM1:cB (tH p g f (j++[s])):=O;have HT1:cB _:=L;have r:cB _:=m;have hoc:=(Vb.1 Z).1;have J:(G.setIfInBounds o (pA (yB g) (yA j+1) f))[o]?=bA (pA (yB g) (yA j+1) f):=by simp[hoc]
 obtain⟨T,V⟩:∃c,c=G.setIfInBounds o (pA (yB g) (yA j+1) f):=⟨_,rfl⟩
 rw[<-V]at J R;have G:cB _:=V;clear V;have k0:p.cell? (dB x o)=bA (pA (yB g) (yA j+1) f):=by rw[R.o.cell];exact J
 clear n O L m W Y N HX c0 Z hi b t U E;go_wp2;go_loopw [4] (λa wr=>∃(k:Nat)(l:List zI),a=zA k/\k<yA l/\yA l=yA j+1/\nB wr x T M/\tH wr g f l/\cB (gS j s=bS l k)/\eB (λk=>k=x\/v.ownBlock=bA k) w wr) (λa _=>(intOf a).toNat)
 case atStart=>exact⟨yA j,j++[s],by go_num,by simp,by simp,R.o,HM1.o,rfl,HT1.o⟩
 case round=>
  obtain⟨k,l,rfl,hk,hl,Y,b,HS,t⟩:=hrel;have F:cB (nB wr x T M):=Y;have z:cB (tH wr g f l):=b;have Q:cB _:=t;have Z:wr.cell? (dB x o)=bA (pA (yB g) (yA j+1) f):=by rw[Y.cell];exact J
  clear Y b t k0;by_cases b:0<k
  .have X:=MO (l:=l) b;obtain⟨q,b⟩:∃q,q=(k-1) / 2:=⟨_,rfl⟩
   rw[<-b]at X;have U:((k:Int)-1) / 2=(q:Nat):=by omega
   have hp:q<yA l:=by omega
   obtain⟨Y,a1,_,_⟩:=z.o.cells hk;obtain⟨b0,b1,_,_⟩:=z.o.cells hp;have t:cB _:=X;have O:cB (∀W,uB wr W->Calls prog 298 #[sA (bA (dB x o)),zA k,zA (((k:Int)-1) / 2)] W λe w'=>e=uA (xA #[])/\tH w' g f (eH l k q)/\qD g W w'):=
    λW hW=>by rw[U];exact TD x o g (yA j+1) f k q l W (by rw[(F.o.z hW).cell];exact J) hl.symm (z.o.z hW) (by omega) (by omega)
   have HL:cB _:=hl;have J:k<yA j+1:=by omega
   have J:q<yA j+1:=by omega
   clear X b hl;have J:=kC.cells Z;have d1:=kC.cells Y;have d2:=kC.cells a1;have d3:=kC.cells b0;have d4:=kC.cells b1;have b:=kC.there wr;clear Y a1 b0 b1 Z;generalize nD l k=A at *;generalize nD l q=C at *;go_wp2_with fail;refine wB (by kernel_rfl) (by kernel_rfl) ?_;repeat (go_big_quiet_step (fail))
   refine bR (by rfl) (λW=>uZ _ _ _ _ _ _ rfl rfl rfl (zX _ _ W)) (by rintro _ ⟨x,rfl⟩;exact oC (DT _ _ _ _ _)) ?_;simp only[Act.put,Ud,Jd,Ze];repeat (go_big_quiet_step (fail))
   refine wpQuiet_nil ?_;rintro _ ⟨y,rfl⟩;have Z:cB _:=y.h;have HE:cB _:=U;clear J d1 d2 d3 d4 b U;generalize y.w'=b at *;clear y;by_cases H:A.t<C.t
   .have J:decide (A.t<C.t)=dA:=by simpa using H
    rw[J];have P:cB (gS j s=bS (eH l k q) q):=by show _=_;rw[HS.o,t.o,Ma H]
    go_wp2_with fail;apply lC (O.o _ Z.o);rintro W ⟨b,U⟩;have Y:cB (tH W g f (eH l k q)):=b;have HX3:cB (nB W x T M):=(F.o.z Z.o).but U K.symm;have HT3:cB (eB (λk=>k=x\/v.ownBlock=bA k) w W):=by
     refine(Q.o.trans' (eB.of Z.o)).trans ((eB.but U).mono λi _ e=>?_);subst e;obtain h|h:=r.o;exact Ca (La h);exact La h
    clear b U O;go_wp2;exact⟨⟨q,eH l k q,by rw[HE.o],by rw[pD];exact hp,by rw[pD];exact HL.o,HX3.o,Y.o,P.o,HT3.o⟩,by simp[intOf];omega⟩
   have J:decide (A.t<C.t)=cA:=by simpa using H
   rw[J];have P:cB (gS j s=l):=by show _=_;rw[HS.o,t.o,Ja H]
   go_wp2;refine bodyPost_ret (v:=xA #[]) (by simp[results,results263,go_sem]) rfl ⟨rfl,g,f,G.o ▸ F.o.z Z.o,?_,r.o,Q.o.trans' (eB.of Z.o)⟩;rw[P.o,<-HL.o];exact hY (z.o.z Z.o) I
  go_wp2;go_end0;obtain rfl:k=0:=by omega
  rw[HS.o,MP];refine⟨rfl,g,f,G.o ▸ F.o,?_,r.o,Q.o⟩;rw[<-hl];exact hY z.o I
def uO(w:eA)(A:Nat->Prop)(a:mC)(b:List kB):Prop:=b=[]\/∃g o,a=bA (dB g o)/\A g/\g<w.1.size/\NT w g o b
def uO.pairs{w:eA}{A:Nat->Prop}{a:mC}{b:List kB}(h:uO w A a b):jC w a b:=by grind [uO,jC]
def fD.toN{w:eA}{C:Nat}{A:Nat->Prop}{a:mC}{b:List kB}(h:fD w C a b)(c:∀g,C<=g->A g):uO w A a b:=by grind [fD,uO]
def aQf(w:eA)(A:Nat->Prop)(b o:Nat)(t:fB):Prop:=
 ∃a d c e,w.cell? (dB b o)=bA (.string t.N)/\w.cell? (dB b (o+1))=bA (zA t.L)/\w.cell? (dB b (o+2))=bA (pA a (yA t.M) d)/\w.cell? (dB b (o+3))=bA (pA c (yA t.Z) e)/\
  uO w A a t.M/\uO w A c t.Z
def dL(w:eA)(A:Nat->Prop)(a:mC)(c:List fB):Prop:=c=[]\/∃b o,a=bA (dB b o)/\A b/\b<w.1.size/\∀i(h:i<yA c),aQf w A b (o+i*4) c[i]
def uO.keep{w w':eA}{A:Nat->Prop}{a:mC}{d:List kB}(h:uO w A a d)(l:w.1.size<=w'.1.size)(k:∀g,A g->g<w.1.size->w'.heap[g]?=w.heap[g]?):uO w' A a d:=by
 obtain h|⟨g,o,rfl,c,b,h⟩:=h;exact Ca h;have e:∀j,w'.cell? (dB g j)=w.cell? (dB g j):=λj=>eA.cell?_of_block (k g c b);exact La ⟨g,o,rfl,c,by omega,λi f=>by simp only[e];exact h i f⟩
def dL.keep{w w':eA}{A:Nat->Prop}{a:mC}{l:List fB}(h:dL w A a l)(k:w.1.size<=w'.1.size)(d:∀g,A g->g<w.1.size->w'.heap[g]?=w.heap[g]?):dL w' A a l:=by
 obtain h|⟨b,o,rfl,f,e,h⟩:=h;exact Ca h;refine La ⟨b,o,rfl,f,by omega,λi y=>?_⟩;obtain⟨m,p,n,q,r,s,t,u,v,x⟩:=h i y;have c:∀j,w'.cell? (dB b j)=w.cell? (dB b j):=λj=>eA.cell?_of_block (d b f e);exact⟨m,p,n,q,(c _).trans r,(c _).trans s,(c _).trans t,(c _).trans u,v.keep k d,x.keep k d⟩
def dL.z{w d:eA}{A:Nat->Prop}{a:mC}{c:List fB}(h:dL w A a c)(b:uB w d):dL d A a c:=h.keep b.size λg _ e=>b.block g e
def uO.mono{w:eA}{A A':Nat->Prop}{a:mC}{b:List kB}(h:uO w A a b)(c:∀g,A g->A' g):uO w A' a b:=by grind [uO]
def dL.mono{w:eA}{A A':Nat->Prop}{a:mC}{f:List fB}(h:dL w A a f)(c:∀g,A g->A' g):dL w A' a f:=by
 obtain h|⟨b,o,e,q,d,h⟩:=h;exact Ca h;refine La ⟨b,o,e,c b q,d,λi v=>?_⟩;obtain⟨j,l,k,m,n,p,r,s,t,u⟩:=h i v;exact⟨j,l,k,m,n,p,r,s,t.mono c,u.mono c⟩
def dL.tens{w:eA}{A:Nat->Prop}{a:mC}{d:List fB}(h:dL w A a d):xC w a d:=by
 obtain h|⟨b,o,rfl,_,c,h⟩:=h;exact Ca h;refine La ⟨b,o,rfl,c,λi r=>?_⟩;obtain⟨e,g,f,j,k,l,m,n,p,q⟩:=h i r;exact⟨e,g,f,j,k,l,m,n,p.pairs,q.pairs⟩
def cD.toN{w:eA}{C:Nat}{A:Nat->Prop}{a:mC}{c:List fB}(h:cD w C a c)(b:∀g,C<=g->A g):dL w A a c:=by
 obtain h|⟨g,o,k,t,T,rfl,s,u,_,h⟩:=h;exact Ca h;refine La ⟨g,o,rfl,b g s,aB u,λi v=>?_⟩;obtain⟨d,f,e,j,l,m,n,p,q,r⟩:=h i v;exact⟨d,f,e,j,l,m,n,p,q.own.toN b,r.own.toN b⟩
def xC.toN{w:eA}{a:mC}{d:List fB}(h:xC w a d):dL w (λg=>g<w.1.size) a d:=by
 obtain h|⟨b,o,e,c,h⟩:=h;exact Ca h;refine La ⟨b,o,e,c,c,λi v=>?_⟩;obtain⟨f,m,j,n,p,q,r,s,t,u⟩:=h i v;exact⟨f,m,j,n,p,q,r,s,t.elim Ca fun⟨g,o,e,l,k⟩=>La ⟨g,o,e,l,l,k⟩,u.elim Ca fun⟨g,o,e,l,k⟩=>La ⟨g,o,e,l,l,k⟩⟩
def dL.lt{w:eA}{A:Nat->Prop}{a:mC}{d:List fB}(h:dL w A a d):dL w (λg=>A g/\g<w.1.size) a d:=by
 obtain h|⟨b,o,e,x,c,h⟩:=h;exact Ca h;refine La ⟨b,o,e,⟨x,c⟩,c,λi y=>?_⟩;obtain⟨f,n,j,p,q,r,s,t,u,v⟩:=h i y;exact⟨f,n,j,p,q,r,s,t,u.elim Ca fun⟨g,o,e,l,m,k⟩=>La ⟨g,o,e,⟨l,m⟩,m,k⟩,v.elim Ca fun⟨g,o,e,l,m,k⟩=>La ⟨g,o,e,⟨l,m⟩,m,k⟩⟩
def dL.turn{w W:eA}{A S:Nat->Prop}{a:mC}{c:List fB}(h:dL w A a c)(b:eB S w W)(d:∀g,A g->¬S g):dL W A a c:=h.keep b.size λg e f=>b.block g f (d g e)
def zK{s:jB}{b:Bool}(h:qG s=b)(w:eA)(a:s.size<=maxLen):rL 98 #[.string s] w (qA b):=h ▸ RG s w a
def yV(a:mC)(r:Nat)(d:List iB)(c p m s:Int)(O:Bool)(w:eA)(hf:tB w a d)(hs:xO d)(I:yA d<=maxLen)(J:pC d<=1000000000):
 dF 39 #[.agg #[pA a (yA d) r,lA mA c,lA mA p,lA mA m,lA mA s,qA O]] w (qA (eF d c p m s)):=by
 obtain⟨z0,z1,z2,z3,z4,z5⟩:=VK w (pA a (yA d) r) (lA mA c) (lA mA p) (lA mA m) (lA mA s) (qA O) 35;have d0:=kC.cells z0;have d1:=kC.cells z1;have d2:=kC.cells z2;have d3:=kC.cells z3;have d4:=kC.cells z4;have d5:=kC.cells z5;have F:uB w (w.alloc (vA #[pA a (yA d) r,lA mA c,lA mA p,lA mA m,lA mA s,qA O] 35)):=iD.alloc (Ia _) _;have hne:=kC.there (w.alloc (vA #[pA a (yA d) r,lA mA c,lA mA p,lA mA m,lA mA s,qA O] 35));have C:cB (∀x:kC (w.alloc (vA #[pA a (yA d) r,lA mA c,lA mA p,lA mA m,lA mA s,qA O] 35)),tB x.w' a d):=λx=>(hf.z F).z x.h;have R:cB (∀x:kC (w.alloc (vA #[pA a (yA d) r,lA mA c,lA mA p,lA mA m,lA mA s,qA O] 35)),uB w x.w'):=λx=>F.trans (x.h.mono F.size);have HS:cB (xO d):=hs;have HL:cB _:=I;unfold maxLen at I;by_cases hA0:(1000:Int)<yA d
 .have E:cB (eF d c p m s=cA):=by
   show _=_;have e:decide (yA d<=1000)=cA:=by simp;omega
   simp only[eF,e,Be]
  go_enter func39,ntmps39;go_wp2_with fail;refine wB (by kernel_rfl) (by kernel_rfl) ?_;repeat (go_big_quiet_step (fail))
  refine wpQuiet_nil ?_;rintro _ ⟨x,rfl⟩;go_wp2;go_ret;exact⟨oB E.o.symm,R.o x⟩
 have hA1:decide ((1000:Int)<yA d)=cA:=by simp;omega
 have hA2:decide (1000<yA d)=cA:=by simp;omega
 have Z:decide (yA d<=1000)=dA:=by simp;omega
 by_cases z:bC c 0 1000000000=cA
 .have E:cB (eF d c p m s=cA):=by show _=_;simp only[eF,z,Wg,Be]
  have u:cB _:=z;go_enter func39,ntmps39;go_wp2_with fail;refine wB (by kernel_rfl) (by kernel_rfl) ?_;repeat (go_big_quiet_step (first|(go_at_call 91;apply uC;apply rD;exact u.o)))
  refine wpQuiet_nil ?_;rintro _ ⟨x,rfl⟩;go_wp2;go_ret;exact⟨oB E.o.symm,R.o x⟩
 have qB:bC c 0 1000000000=dA:=by simpa using z
 have u:cB _:=qB;by_cases hC0:c<(pC d:Int)
 .have E:cB (eF d c p m s=cA):=by
   show _=_;have e:decide ((pC d:Int)<=c)=cA:=by simp;omega
   simp only[eF,e,Wg,Be]
  go_enter func39,ntmps39;go_wp2_with fail;refine wB (by kernel_rfl) (by kernel_rfl) ?_;repeat (go_big_quiet_step (first|(go_at_call 91;apply uC;apply rD;exact u.o)|(go_at_call 97;exact oC (AE _ _ _ _ _ _ _ _ _ (C.o _) HL.o J))))
  refine wpQuiet_nil ?_;rintro _ ⟨x,rfl⟩;go_wp2;go_ret;exact⟨oB E.o.symm,R.o x⟩
 have hC1:decide (c<(pC d:Int))=cA:=by simp;omega
 have qC:decide ((pC d:Int)<=c)=dA:=by simp;omega
 have E:cB (eF d c p m s=(iI d&&bC p 0 1000000000000000&&bC m 0 1000000000000000&&bC s 0 1000000000000000)):=by show _=_;simp only[eF,Z,qB,qC,Oc,Bool.and_true]
 go_enter func39,ntmps39;go_wp2_with fail;refine wB (by kernel_rfl) (by kernel_rfl) ?_;repeat (go_big_quiet_step (first|(go_at_call 91;apply uC;apply rD;exact u.o)|(go_at_call 97;exact oC (AE _ _ _ _ _ _ _ _ _ (C.o _) HL.o J))))
 refine wpQuiet_nil ?_;rintro _ ⟨x,rfl⟩;have HF:cB (tB x.w' a d):=C.o x;have S:cB (uB w x.w'):=R.o x;have n:w.1.size<x.w'.1.size:=by have:=x.h.size;simp at this;omega
 have e0:=d0 x;have T:=d2 x;have e3:=d3 x;have e4:=d4 x;generalize x.w'=W at *;have HC:cB (∀wr,uB W wr->wr.cell? ⟨w.1.size,0,none⟩=bA (pA a (yA d) r)/\wr.cell? ⟨w.1.size,2,none⟩=bA (lA mA p)/\
  wr.cell? ⟨w.1.size,3,none⟩=bA (lA mA m)/\wr.cell? ⟨w.1.size,4,none⟩=bA (lA mA s)):=λwr h=>
  ⟨(h.cell n).trans e0,(h.cell n).trans T,(h.cell n).trans e3,(h.cell n).trans e4⟩
 go_wp2;go_loopw [3,4,25] (λ_ _ i wr=>∃k:Nat,k<=yA d/\i=lA mA k/\dU d k=dA/\uB W wr) (λ_ _ i _=>yA d-(intOf i).toNat)
 case atStart=>exact⟨0,Oa _,rfl,rfl,iD⟩
 case round=>
  obtain⟨k,hk,rfl,U,g⟩:=hrel;have e0':=HC.o wr g;have L:cB _:=U;have t:cB _:=S.o.trans (g.mono (Vg n));have M:w.1.size<wr.1.size:=by have:=g.size;omega
  have hsz2:¬w.1.size=wr.1.size:=by omega
  by_cases l:k<yA d
  .obtain ⟨b,o,rfl,hb,c0,c1,c2⟩:=(HF.o.z g).at l;have V:=(HS.o k l).1;have hsd:=(HS.o k l).2;have y:cB _:=V;unfold maxLen at hsd;by_cases P:qG d[k].N=cA
   .have f:uU d k=cA:=by simp[uU,Va l,cP,P]
    have D:cB _:=AO f l;have N:cB _:=P;go_wp2_with(first|(go_at_call 98;apply lC (zK N.o _ y.o);rintro q rfl));go_ret;exact⟨oB (by rw[E.o,iI,D.o];simp),t.o.alloc (Vg M) _⟩
   have H:qG d[k].N=dA:=by simpa using P
   have N:cB _:=H;by_cases A:bC d[k].Y 0 d[k].data.size=cA
   .have f:uU d k=cA:=by simp[uU,Va l,cP,A]
    have D:cB _:=AO f l;have v:cB _:=A;go_wp2_with(first|(go_at_call 98;apply lC (zK N.o _ y.o);rintro q rfl)|(go_at_call 91;apply lC (rD v.o _);rintro q rfl));go_ret;exact⟨oB (by rw[E.o,iI,D.o];simp),t.o.alloc (Vg M) _⟩
   have B:bC d[k].Y 0 d[k].data.size=dA:=by simpa using A
   have v:cB _:=B;have G:cP d[k]=dA:=by simp[cP,H,B]
   by_cases hk0:(0:Int)<k
   .obtain ⟨b2,o2,T,q1,c0',q2,q3⟩:=(HF.o.z g).at (i:=k-1) (by omega)
    simp only[Qa,Addr.mk.injEq,Cc]at T;obtain⟨rfl,rfl⟩:=T;have f:uU d k=Op.bytesLess d[k-1].N.toList d[k].N.toList:=by
     obtain⟨j,rfl⟩:∃j,k=j+1:=⟨k-1,by omega⟩
     simp[uU,Va l,Va (show j<yA d by omega),G]
    generalize d[k-1].N=gn at c0' f;have hk1:0<k:=by omega
    by_cases hl:Op.bytesLess gn.toList d[k].N.toList=dA
    .have D:cB (dU d (k+1)=dA):=by show dU d (k+1)=dA;rw[CC,L.o,f,hl];rfl
     go_wp2_with(first|(go_at_call 98;apply lC (zK N.o _ y.o);rintro q rfl)|(go_at_call 91;apply lC (rD v.o _);rintro q rfl));go_quiet (fail)
     go_wp2;exact⟨⟨k+1,by omega,by go_num,D.o,below_drewN (g.alloc g.size _) _⟩,by simp[intOf];omega⟩
    have hl':Op.bytesLess gn.toList d[k].N.toList=cA:=by simpa using hl
    have D:cB _:=AO (by rw[f];exact hl') l;go_wp2_with(first|(go_at_call 98;apply lC (zK N.o _ y.o);rintro q rfl)|(go_at_call 91;apply lC (rD v.o _);rintro q rfl));go_quiet (fail)
    go_wp2;go_ret;exact⟨oB (by rw[E.o,iI,D.o];simp),below_drewN (t.o.alloc (Vg M) _) _⟩
   have f:uU d k=dA:=by
    obtain rfl:k=0:=by omega
    simp[uU,Va l,G]
   have D:cB (dU d (k+1)=dA):=by show dU d (k+1)=dA;rw[CC,L.o,f];rfl
   have hk1:decide (0<k)=cA:=by simp;omega
   go_wp2_with(first|(go_at_call 98;apply lC (zK N.o _ y.o);rintro q rfl)|(go_at_call 91;apply lC (rD v.o _);rintro q rfl));go_quiet (fail)
   go_wp2;exact⟨⟨k+1,by omega,by go_num,D.o,below_drewN (g.alloc g.size _) _⟩,by simp[intOf];omega⟩
  have ek:k=yA d:=by omega
  have E2:cB (eF d c p m s=(bC p 0 1000000000000000&&bC m 0 1000000000000000&&bC s 0 1000000000000000)):=by
   show _=_;have:=L.o;rw[ek]at this;rw[E.o,iI,this,Oc]
  by_cases X:bC p 0 1000000000000000=cA
  .have K:cB _:=X;go_wp2_with(first|(go_at_call 91;apply lC (rD K.o _);rintro q rfl));go_ret;exact⟨oB (by rw[E2.o,K.o];rfl),t.o⟩
  have K:cB (bC p 0 1000000000000000=dA):=by show _=_;simpa using X
  by_cases Y:bC m 0 1000000000000000=cA
  .have Q:cB _:=Y;go_wp2_with fail;apply lC (rD K.o _);rintro q rfl;go_wp2_with fail;apply lC (rD Q.o _);rintro q rfl;go_wp2;go_ret;exact⟨oB (by rw[E2.o,K.o,Q.o];rfl),t.o⟩
  have Q:cB (bC m 0 1000000000000000=dA):=by show _=_;simpa using Y
  go_wp2_with fail;apply lC (rD K.o _);rintro q rfl;go_wp2_with fail;apply lC (rD Q.o _);rintro q rfl;go_wp2_with fail;apply lC (dE _ _ _ _);rintro q rfl;go_wp2;go_ret;exact⟨oB (by rw[E2.o,K.o,Q.o];rfl),t.o⟩
