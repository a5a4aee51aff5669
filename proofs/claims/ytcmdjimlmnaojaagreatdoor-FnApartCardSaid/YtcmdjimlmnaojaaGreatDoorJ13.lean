import Derived.Test.YtcmdjimlmnaojaaGreatDoorJ09
import Derived.Test.YtcmdjimlmnaojaaGreatDoorJ10
set_option maxRecDepth 100000
set_option maxHeartbeats 4000000
set_option linter.defProp false
open Option renaming some->cA
open Bool renaming false->dA,true->eA
open List renaming length->zA
namespace Go.Proofs.YtcmdjimlmnaojaaGreatDoor
open Go renaming World->fA,Value->jA
open Ending renaming returned->vA
open Value renaming tuple->yA,slice->qA,pointer->tA,bool->sA,int->mA
open Obj renaming cells->xA
open IntKind renaming i64->oA
open Go.RowKit Tryz
def MU(a:List cC):Prop:=∀i(h:i<zA a),a[i].N.size<=1000000000/\a[i].V.size<=1000000000
def AF{w:fA}{B d:Nat}{e:TypeId}{a:Nat}{v:jA}{n:Nat}{f:List jA}(h:w.ownsRow B e a v n f)(j:d<=B):w.ownsRow d e a v n f:=by
 refine⟨h.1,?_⟩;obtain i|⟨g,b,c,l,k,r⟩:=h.2;exact Ca i;exact La ⟨g,b,c,l,Ua j k,r⟩
def KC(a:List cC)(m:Nat)(h:m<zA a):(rC a)[m*2]?=cA (.string a[m].N):=by
 have e:rC a=rC (a.take m)++rC (a.drop m):=by rw[<-qF,Za]
 have b:zA (rC (a.take m))=m*2:=by rw[hI,Hb];omega
 rw[e,Uc (by omega),b,Nat.sub_self,Cb h];rfl
def MV(e:Ending)(w d:fA)(l:List cC)(c i:Nat):Prop:=∃b a,e=vA (yA #[qA b (zA l) a,aB (c:Nat),aB (i:Nat)])/\zD d w.1.size b l/\xB w d
def ug(e:Ending)(w d:fA)(l:List cC)(c i:Nat):Prop:=∃b a,e=vA (yA #[qA b (zA l) a,aB (c:Nat),aB (i:Nat)])/\zA l<=a/\zD d w.1.size b l/\xB w d
theorem BG(a:Option Addr)(e0:Nat)(c:List cC)(w:World)(hf:qD w a c)(hB:MU c)(hlen:c.length<=2000000)(hcap:c.length<=e0):
 Calls prog 106 #[.slice a c.length e0] w λe P=>ug e w P (wB c).1 (wB c).2.1 (wB c).2.2:=by
 have HF:cB (qD w a c):=hf;have HB:cB (MU c):=hB;clear hf hB;by_cases h16:16<c.length
 .rw[BQ h16];go_enter func106,ntmps106;go_wp2;refine bodyPost_ret (v:=.tuple #[.slice (some ⟨w.1.size,0,none⟩) 0 0,.int .i64 40,.int .i64 0]) (by simp[results,results106,go_sem]) rfl ⟨_,_,rfl,Ia _,Ca rfl,bC⟩
 have J:cB (¬16<c.length):=h16;go_enter func106,ntmps106;go_wp2;go_loopw [6,7,8,25] (λ_ _ _ i wr=>∃k:Nat,k<=c.length/\i=.int .i64 k/\cB (fD c 0=fD (c.drop k) k)/\Below w.1.size w wr) (λ_ _ _ i _=>c.length-(intOf i).toNat)
 case atStart=>exact⟨0,Oa _,rfl,rfl,bC⟩
 case round=>
  obtain⟨k,hk,rfl,t,d⟩:=hrel;by_cases j:k<c.length
  .obtain ⟨b,o,rfl,hb,c0,c1⟩:=(HF.o.z d).at j;obtain⟨hs1,hs2⟩:=HB.o k j;have y:cB _:=λW=>ZQ c[k].N W (by unfold maxLen;omega);have HVL:cB _:=λW=>LH c[k].V W hs2;have F:=AV c k j;have K:cB (∀V,xQ c[k]=V->V≠0->wB c=([],V,k)):=λV h h0=>qZ J.o (by rw[t.o,F,h,Ja h0]);have Z:cB (xQ c[k]=0->fD c 0=fD (c.drop (k+1)) (k+1)):=λh=>by rw[t.o,F,Ma h]
   unfold xQ at K Z;clear F hs1 hs2;generalize c[k].N=p at *;generalize c[k].V=r at *;go_wp2_with fail;refine rD (y.o _) ?_;cases hnm:PN p
   .have E:=dB (K.o 41 (by rw[hnm];rfl) (by omega));clear hnm;go_wp2;refine bodyPost_ret (v:=.tuple #[.slice (some ⟨w.1.size,0,none⟩) 0 0,.int .i64 41,.int .i64 k]) (by simp[results,results106,go_sem]) rfl ?_;rw[E.o];exact⟨_,_,rfl,Ia _,Ca rfl,aC d bC⟩
   rw[hnm,Ma rfl]at K Z;clear hnm;go_wp2_with fail;refine(HVL.o _).mono ?_;rintro e w2 ⟨rfl,hb2⟩;have G:cB _:=aC (aC d bC) hb2;clear hb2 HVL y;generalize fP r=V at *;by_cases h0:V=0
   .have E:=dB (Z.o h0);subst h0;go_wp2;exact⟨⟨k+1,by omega,by go_num,E.o,G.o⟩,by simp[intOf];omega⟩
   .have E:=dB (K.o V rfl h0);have h0b:((V:Int) != 0)=true:=by simp;omega
    clear h0;go_wp2;refine bodyPost_ret (v:=.tuple #[.slice (some ⟨w.1.size,0,none⟩) 0 0,.int .i64 V,.int .i64 k]) (by simp[results,results106,go_sem]) rfl ?_;rw[E.o];exact⟨_,_,rfl,Ia _,Ca rfl,G.o⟩
  .have HN:cB (fD c 0=none):=by
    show _=_;rw[t.o,Yb (by omega)];rfl
   clear t HB;go_wp2;clear j hk;go_loopw [9,10,12,47,54,55,56] (λ_ _ _ i _ _ _ wr=>∃k:Nat,k<=c.length/\i=.int .i64 k/\cB (pF [] c 0=pF (c.take k) (c.drop k) k)/\Below w.1.size w wr) (λ_ _ _ i _ _ _ _=>c.length-(intOf i).toNat)
   case atStart=>exact⟨0,Oa _,rfl,rfl,d⟩
   case round=>
    clear d;obtain⟨k,hk,rfl,t,d⟩:=hrel;by_cases j:k<c.length
    .obtain ⟨b,o,rfl,hb,c0,c1⟩:=(HF.o.z d).at j;have F:=EM c k j;have hk0:(0:Int)<=(k:Int):=by omega
     have hkc:(k:Int)<=(e0:Int):=by omega
     have HYES:cB _:=λh=>iY J.o HN.o (by rw[t.o,F,Ma h]);have HNO:cB (((c.take k).any λx=>rR x c[k])=false->pF [] c 0=pF (c.take (k+1)) (c.drop (k+1)) (k+1)):=λh=>by rw[t.o,F,Ja (by rw[h];simp)]
     have HSN:cB (∀x,rR x c[k]=(x.N.toList==c[k].N.toList)):=λx=>rfl;clear F;generalize hlk:c[k]=lk at *;generalize lk.N=p at *;generalize lk.V=r at *;have u:cB (jB (wr.alloc (.cells #[.string p,.string r] 175)) wr.1.size #[.string p,.string r] 175/\Below w.1.size w (wr.alloc (.cells #[.string p,.string r] 175))):=⟨heap_alloc_new _ _,aC d bC⟩
     go_wp2;generalize wr.alloc (.cells #[.string p,.string r] 175)=W at *;clear hb c0 c1 d;generalize wr.1.size=Q at *;clear wr;go_loopw [12,56] (λ_ i wr=>∃m:Nat,m<=k/\i=.int .i64 m/\cB (((c.take m).any λx=>rR x lk)=false)/\Below W.1.size W wr) (λ_ i _=>k-(intOf i).toNat)
     case atStart=>exact⟨0,Oa _,rfl,by show _=_;simp,gD⟩
     case round=>
      obtain⟨m,hm,rfl,C,l⟩:=hrel;have X:=u.o.1.z l;have x0:=X.cell 0;simp only[Xb,Ob]at x0;have hXl:=bB X;clear X;by_cases hmk:m<k
      .obtain ⟨b',o',e',hb',d0,d1⟩:=(HF.o.z (aC u.o.2 l)).at (i:=m) (by omega)
       simp only[Qa,Addr.mk.injEq,Cc]at e';obtain⟨rfl,rfl⟩:=e';have hT1:(c.take k).any (λx=>rR x lk)=true\/rR c[m] lk=false:=by
        cases hq:rR c[m] lk with
        |false=>exact La rfl
        |true=>
         left;rw[Zd];refine⟨c[m],?_,hq⟩;rw[List.mem_take_iff_getElem];exact⟨m,by omega,rfl⟩
       have HT1:cB _:=hT1;have HQ:cB _:=HSN.o c[m];have HT2:cB (rR c[m] lk=false->((c.take (m+1)).any λx=>rR x lk)=false):=λh=>by rw[Pa (by omega),Tf,C.o];simp[h]
       clear hT1;generalize c[m]=lm at *;generalize lm.N=O at *;generalize lm.V=va2 at *;by_cases hq:(O.toList==p.toList)=true
       .have E:cB (wB c=([],45,k)):=by
         obtain h|h:=HT1.o
         .exact HYES.o h
         .rw[HQ.o,hq]at h;exact absurd h (by simp)
        go_wp2;refine bodyPost_ret (v:=.tuple #[.slice (some ⟨w.1.size,0,none⟩) 0 0,.int .i64 45,.int .i64 k]) (by simp[results,results106,go_sem]) rfl ?_;rw[E.o];exact⟨_,_,rfl,Ia _,Ca rfl,aC (aC u.o.2 l) bC⟩
       .have hq':(O.toList==p.toList)=false:=by simpa using hq
        have E:cB _:=HT2.o (by rw[HQ.o];exact hq');clear hq;go_wp2;exact⟨⟨m+1,by omega,by go_num,E.o,aC l bC⟩,by simp[intOf];omega⟩
      .have Y:m=k:=by omega
       have E:cB _:=HNO.o (by rw[<-Y];exact C.o);subst Y;go_wp2;exact⟨⟨m+1,by omega,by go_num,E.o,aC u.o.2 l⟩,by simp[intOf];omega⟩
    .have HN2:cB (pF [] c 0=none):=by
      show _=_;rw[t.o,Yb (by omega)];rfl
     clear t;go_wp2;clear j hk;go_loopw [13,14,16,17,72] (λout me _ _ i wr=>∃(k:Nat)(f:List cC)(T cv:Nat)(L:Bool),k<=c.length/\f.length<=k/\cB (mG [] c=mG f (c.drop k)/\L=vR (c.take k))/\i=.int .i64 k/\out=.slice (some ⟨T,0,none⟩) f.length cv/\me=.bool L/\cB (wr.ownsRow w.1.size 175 2 (.slice (some ⟨T,0,none⟩) f.length cv) f.length (rC f))/\Below w.1.size w wr) (λ_ _ _ _ i _=>c.length-(intOf i).toNat)
     case atStart=>
      exact⟨0,[],_,_,false,Oa _,Oa _,⟨rfl,by simp[vR]⟩,rfl,rfl,rfl,AF (World.ownsRow_made wr #[] 0 (Ia _) (by simp[maxLen]) (by simp)) d.size,aC d bC⟩
     case round=>
      clear d;obtain⟨k,f,T,cv,L,hk,hy,t,rfl,rfl,rfl,n,d⟩:=hrel;have hsz:=d.size;by_cases j:k<c.length
      .obtain ⟨b,o,rfl,hb,c0,c1⟩:=(HF.o.z d).at j;have F:=fd f c k j;have C:=ym c k j;have hE:=fo c[k];have hMN:kP c[k]=(c[k].N.toList==[95,95,110,97,109,101,95,95]):=by rw[kP,show QA.toList=[95,95,110,97,109,101,95,95] by rw[QA,ByteArray.toList_eq]]
       by_cases D:sS c[k]=true
       .have E:cB (mG [] c=mG f (c.drop (k+1))/\L=vR (c.take (k+1))):=by
         refine⟨?_,?_⟩
         .rw[t.o.1,F,Ma D]
         .rw[C,D,t.o.2];simp
        have heb:c[k].V.toList.isEmpty=true:=by rw[<-hE];exact D
        clear F C D hE hMN;generalize c[k].N=p at *;generalize c[k].V=r at *;go_wp2;exact⟨⟨k+1,f,T,cv,L,by omega,by omega,E.o,by go_num,rfl,rfl,hC n.o bC,aC d bC⟩,by simp[intOf];omega⟩
       .have E:cB (mG [] c=mG (yQ c[k] f) (c.drop (k+1))/\(L||kP c[k])=vR (c.take (k+1))):=by
         refine⟨?_,?_⟩
         .rw[t.o.1,F,Ja D]
         .have he':sS c[k]=false:=by simpa using D
          rw[C,he',t.o.2];simp
        have heb:c[k].V.toList.isEmpty=false:=by rw[<-hE];simpa using D
        have HMN:cB _:=hMN;have HLK:cB (∀x,lP x c[k]=Op.bytesLess x.N.toList c[k].N.toList):=λx=>rfl;have HFL:cB (rC [c[k]]=[.string c[k].N,.string c[k].V]):=rfl;clear F C D hE hMN;generalize c[k]=lk at *;generalize lk.N=p at *;generalize lk.V=r at *;have u:cB (jB (wr.alloc (.cells #[.string p,.string r] 175)) wr.1.size #[.string p,.string r] 175):=heap_alloc_new _ _;have H:cB ((wr.alloc (.cells #[.string p,.string r] 175)).ownsRow w.1.size 175 2 (.slice (some ⟨T,0,none⟩) f.length cv) f.length (rC f)):=hC n.o bC;have HBW:cB (Below w.1.size w (wr.alloc (.cells #[.string p,.string r] 175))/\w.1.size<=wr.1.size/\T<wr.1.size):=⟨aC d bC,hsz,by
         obtain⟨D,_⟩|⟨g',cap',cur,D,_,hb,_⟩:=n.o.2
         .simp at D
         .simp only[Value.slice.injEq,Qa,Addr.mk.injEq,Cc]at D;rw[D.1];exact bB hb⟩
        cases L
        all_goals
         go_wp2;generalize wr.alloc (.cells #[.string p,.string r] 175)=W at *;clear n d hsz hb c0 c1;generalize wr.1.size=Q at *;clear wr;go_loopw [17] (λb0 wr=>∃m:Nat,m<=f.length/\b0=.int .i64 m/\cB (xX lk f=m+xX lk (f.drop m))/\Below W.1.size W wr) (λb0 _=>f.length-(intOf b0).toNat)
         case atStart=>exact⟨0,Oa _,rfl,by show _=_;simp,gD⟩
         case round=>
          obtain⟨m,hm,rfl,C,d⟩:=hrel;have X:=u.o.z d;have x0:=X.cell 0;have x1:=X.cell 1;simp only[Xb,Ob,Ga]at x0 x1;have y0:=kC.cells x0;have hne:=kC.there wr;have HX:cB (jB wr Q #[.string p,.string r] 175):=X;clear X x0 x1;have hcs:(∃h:m<f.length,lP f[m] lk=true/\xX lk f=m+1+xX lk (f.drop (m+1)))\/(¬(m:Int)<(f.length:Int)\/∃h:m<f.length,lP f[m] lk=false)/\xX lk f=m:=by
           by_cases q:m<f.length
           .have HPS:=zf lk f m q;cases s:lP f[m] lk
            .exact La ⟨La ⟨q,s⟩,by rw[C.o,HPS,Ja (by rw[s];simp)];rfl⟩
            .exact Ca ⟨q,s,by rw[C.o,HPS,Ma s];omega⟩
           .exact La ⟨Ca (by omega),by rw[C.o,Yb (by omega)];simp[xX]⟩
          have y:=dB fun(q:m<f.length)=>kC.cells ((vK (hC H.o d)).2.2.2 (m*2) _ (KC f m q));obtain⟨q,s,h2⟩|⟨hx,h2⟩:=hcs
          .have E2:=dB h2;have y2:=y.o q;have hm1:(m:Int)<(f.length:Int):=by omega
           have hm00:(0:Int)<=(m:Int):=by omega
           rw[HLK.o]at s;clear y h2 C;generalize f[m].N=O at *;go_wp2_with fail;refine zB (by kernel_rfl) (by kernel_rfl) ?_;repeat (go_big_quiet_step (fail))
           refine wpQuiet_nil ?_;rintro _ ⟨x,rfl⟩;have HXB:cB _:=aC d x.h;clear y0 y2 hne;generalize x.w'=g at *;clear x;go_wp2;exact⟨⟨m+1,by omega,by go_num,E2.o,HXB.o⟩,by simp[intOf];omega⟩
          have E2:=dB h2;have hm00:(0:Int)<=(m:Int):=by omega
          clear h2 C;obtain hml'|⟨q,s⟩:=hx
          have hml0:¬m<f.length:=by omega
          rotate_left;have y2:=y.o q;have hm1:(m:Int)<(f.length:Int):=by omega
          rw[HLK.o]at s;generalize f[m].N=O at *;all_goals
           go_wp2_with fail;refine zB (by kernel_rfl) (by kernel_rfl) ?_;repeat (go_big_quiet_step (fail))
           refine wpQuiet_nil ?_;rintro _ ⟨x,rfl⟩;try clear y2
           have hx:=x.h;clear y0 hne y;generalize x.w'=g at *;clear x;have G:cB _:=aC d hx;have R:cB _:=aC HBW.o.1 G.o;obtain⟨hcv,hg2,-,hrc⟩:=vK (hC H.o G.o);have a0:=dB hrc;have M:=HX.o.z hx;have x0:g.cell? ⟨Q,0,none⟩=some (.string p):=M.cell 0;have x1:g.cell? ⟨Q,1,none⟩=some (.string r):=M.cell 1;have U:=bB M;have hmc:(m:Int)<=(cv:Int):=by omega
           have hmn:(m:Int)<=(f.length:Int):=by omega
           have A:cB (∀P,Below g.1.size g P->P.cell? ⟨Q,0,none⟩=some (.string p)/\P.cell? ⟨Q,1,none⟩=some (.string r)):=λP h=>⟨(h.cell U).trans x0,(h.cell U).trans x1⟩
           have hL1:(rC (f.take m)).length=m*2:=by rw[hI,Hb];omega
           have hL2:(rC (f.drop m)).length=(f.length-m)*2:=by rw[hI,Rc]
           clear hx d HX H u M hrc;go_upto_region 33 with fail;go_region_held3 (λP=>P.cell? ⟨Q,0,none⟩=some (.string p)/\P.cell? ⟨Q,1,none⟩=some (.string r))
            (first|go_keep|exact A.o _ k7|exact A.o _ k6|exact A.o _ (N.alloc N.size _)|exact A.o _ N|exact A.o _ (JN g _)|exact A.o _ (JO g _ _))
            (first
             |(refine fS (by rfl) _ _ (by rfl) underlying90 qS rfl (by omega) (by omega) (B:=g.1.size) (by rfl) (by exact hown6) _ (by rfl) hL2 (by exact jy (jY a0.o hg2 k6) m hcv) (oS _) (by omega) (by exact k6.size) ?_;intro g7 S w7 I hB7 hk7 _;have k7:=k6.trans hB7)
             |(refine fS (by rfl) _ _ (by rfl) underlying90 qS rfl (by omega) (by omega) (B:=g.1.size) (by rfl) (by first|exact z|exact hC z bC) [.string p,.string r] (by rfl) rfl (by first|exact ZW (heap_alloc_new _ _)|exact ZW ((hk5 _ (by simp) (by omega)).trans (ub g _ _))|exact ZW ((hk5 _ (by simp;omega) (by omega)).trans (uc g _ _))) (by simp[Value.oneCell']) (by omega) (by first|exact N.size|exact(N.alloc N.size _).size) ?_;intro g6 cap6 w6 hown6 hB6 hk6 _;have k6:Below g.1.size g w6:=(by first|exact N.trans hB6|exact(N.alloc N.size _).trans hB6))
             |(refine fS (by rfl) _ _ (by rfl) underlying90 qS rfl (by omega) (by omega) (B:=g.1.size) (by rfl) (by first|exact aLw g _|exact aLx g _ _|exact aLy g _ _) _ (by rfl) hL1 (by first|exact jx (jY a0.o hg2 (JN g _)) m|exact jx (jY a0.o hg2 (JO g _ _)) m) (oS _) (by omega) (by first|exact(JN g _).size|exact(JO g _ _).size) ?_;intro g5 cap5 w5 z hB5 hk5 _;have N:Below g.1.size g w5:=(by first|exact(JN g _).trans hB5|exact(JO g _ _).trans hB5);simp only[Ya,Mb]at z |-))
           all_goals
            have hl:(yQ lk f).length=m+1+(f.length-m):=by rw[YS];omega
            have HO7:cB (w7.ownsRow w.1.size 175 2 (.slice (some ⟨g7,0,none⟩) (yQ lk f).length S) (yQ lk f).length (rC (yQ lk f))):=by
             have hfl:rC (yQ lk f)=rC (f.take m)++[.string p,.string r]++rC (f.drop m):=by
              rw[yQ,E2.o,qF,show lk::f.drop m=[lk]++f.drop m from rfl,qF,HFL.o,Nd]
             show World.ownsRow _ _ _ _ _ _ _;rw[hl,hfl];exact AF I R.o.size
            have HB7:cB _:=aC R.o k7;rw[<-hl];have hle7:(yQ lk f).length<=k+1:=by omega
            clear I k7 hl;generalize yQ lk f=ys7 at *;go_wp2;refine⟨⟨k+1,ys7,g7,S,_,by omega,hle7,⟨E.o.1,?_⟩,by go_num,rfl,rfl,HO7.o,HB7.o⟩,by simp[intOf];omega⟩;have h:=E.o.2;rw[HMN.o]at h;simpa using h
      .have HE:cB (mG [] c=f/\L=vR c):=by
        have h:=t.o;rw[Yb (by omega),Ra (by omega)]at h;exact h
       have HR:cB (zD wr w.1.size (some ⟨T,0,none⟩) f):=eK n.o;have hcvr:=(vK n.o).1;clear n t;cases L with
       |false=>
        have E:cB _:=IA J.o HN.o HN2.o HE.o.2.symm;go_wp2;refine bodyPost_ret (v:=.tuple #[.slice (some ⟨w.1.size,0,none⟩) 0 0,.int .i64 46,.int .i64 0]) (by simp[results,results106,go_sem]) rfl ?_;rw[E.o];exact⟨_,_,rfl,Ia _,Ca rfl,d⟩
       |true=>
        have E:cB (wB c=(f,0,0)):=by show _=_;rw[NK J.o HN.o HN2.o HE.o.2.symm,HE.o.1]
        go_wp2;refine bodyPost_ret (v:=.tuple #[.slice (some ⟨T,0,none⟩) f.length cv,.int .i64 0,.int .i64 0]) (by simp[results,results106,go_sem]) rfl ?_;rw[E.o];exact⟨_,_,rfl,hcvr,HR.o,d⟩
def SQ(a:nC)(c:Nat)(b:List cC)(w:fA)(n:qD w a b)(m:MU b)(g:zA b<=2000000)(f:zA b<=c):
 Calls prog 106 #[qA a (zA b) c] w λe h=>MV e w h (wB b).1 (wB b).2.1 (wB b).2.2:=by
 refine(BG a c b w n m g f).mono ?_;rintro e h ⟨i,d,j,_,k,l⟩;exact⟨i,d,j,k,l⟩
def aNz(a:Array jA)(c:List qI):Prop:=∀k,k<zA c->a[k*2]?=cA (.pointer (vB ((oD c k).b)))/\a[k*2+1]?=cA (aB (oD c k).t)
def zH(w:fA)(g a:Nat)(hs:List qI):Prop:=∃b,jB w g b 331/\b.size=a*2/\zA hs<=a/\a<=maxLen/\aNz b hs
def zH.cells{w:fA}{g d k:Nat}{c:List qI}(h:zH w g d c)(f:k<zA c):
 w.cell? (eB g (k*2))=cA (.pointer (vB ((oD c k).b)))/\w.cell? (eB g (k*2+1))=cA (aB (oD c k).t)/\w.frozen? (eB g (k*2))=dA/\w.frozen? (eB g (k*2+1))=dA:=by
 obtain⟨i,a,_,_,_,e⟩:=h;rw[a.cell,a.cell];exact⟨(e k f).1,(e k f).2,a.free _,a.free _⟩
def zH.z{w d:fA}{g a:Nat}{c:List qI}(h:zH w g a c)(i:xB w d):zH d g a c:=by
 obtain⟨b,e,f⟩:=h;exact⟨b,e.z i,f⟩
def zH.lt{w:fA}{g a:Nat}{d:List qI}(h:zH w g a d):g<w.1.size:=by
 obtain⟨b,c,e⟩:=h;exact bB c
def sD.drew{g:Nat}{a w:fA}(h:sD g a w):sD g a w.drew:=⟨h.os,h.tape,h.output,h.size,h.block⟩
def zH.swap{w:fA}{g c i j:Nat}{a:List qI}(h:zH w g c a)(u:i<zA a)(v:j<zA a):
 zH ((((w.setCell (eB g (i*2)) (.pointer (vB ((oD a j).b)))).setCell (eB g (i*2+1)) (aB (oD a j).t)).setCell (eB g (j*2)) (.pointer (vB ((oD a i).b)))).setCell (eB g (j*2+1)) (aB (oD a i).t)) g c (jH a i j):=by
 obtain⟨o,p,d,q,r,s⟩:=h;refine⟨_,(((p.set _ _).set _ _).set _ _).set _ _,by simp[d],by rw[pD];exact q,r,λk l=>?_⟩;rw[pD]at l;rw[cJ u v];by_cases e:k=j
 .subst e;rw[Ma rfl];constructor<;>simp[Eb,d]<;>omega
 rw[Ja e];by_cases f:k=i
 .subst f;rw[Ma rfl];constructor
  .rw[Ea (by omega),Ea (by omega),Ea (by omega)];simp[Eb,d];omega
  rw[Ea (by omega),Ea (by omega)];simp[Eb,d];omega
 rw[Ja f];obtain⟨m,n⟩:=s k l;constructor;rw[Ea (by omega),Ea (by omega),Ea (by omega),Ea (by omega)];exact m;rw[Ea (by omega),Ea (by omega),Ea (by omega),Ea (by omega)];exact n
def RH(x o g n h i j:Nat)(f:List qI)(w:fA)(N:w.cell? (eB x o)=cA (qA (vB g) n h))(y:n=zA f)(l:zH w g h f)(L:i<n)(M:j<n):
 Calls prog 293 #[tA (cA (eB x o)),aB i,aB j] w λe r=>e=vA (yA #[])/\zH r g h (jH f i j)/\sD g w r:=by
 have p:cB (zH ((((w.setCell (eB g (i*2)) (.pointer (vB ((oD f j).b)))).setCell (eB g (i*2+1)) (aB (oD f j).t)).setCell (eB g (j*2)) (.pointer (vB ((oD f i).b)))).setCell (eB g (j*2+1)) (aB (oD f i).t)) g h (jH f i j)):=l.swap (by omega) (by omega);obtain⟨z,B,c,d⟩:=l.cells (k:=i) (by omega);obtain⟨D,E,O,P⟩:=l.cells (k:=j) (by omega);have q:∀(a b:jA),(∃v,((w.setCell (eB g (i*2)) a).setCell (eB g (i*2+1)) b).cell? (eB g (j*2))=cA v)/\(∃v,((w.setCell (eB g (i*2)) a).setCell (eB g (i*2+1)) b).cell? (eB g (j*2+1))=cA v)/\
  ((w.setCell (eB g (i*2)) a).setCell (eB g (i*2+1)) b).frozen? (eB g (j*2))=dA/\((w.setCell (eB g (i*2)) a).setCell (eB g (i*2+1)) b).frozen? (eB g (j*2+1))=dA:=λa b=>by
  obtain⟨s,u,J,K,_⟩:=l;have m:=(u.set (i*2) a).set (i*2+1) b;exact⟨m.there (by simp;omega),m.there (by simp;omega),m.free _,m.free _⟩
 obtain⟨⟨Q,F⟩,⟨S,G⟩,H,I⟩:=q (.pointer (vB ((oD f j).b))) (aB (oD f j).t);clear y l q;generalize oD f i=A at *;generalize oD f j=C at *;generalize jH f i j=R at *;clear f;go_enter func293,ntmps293;go_wp2_with fail;go_region
 go_wp2;go_end0;exact⟨rfl,p.o,(((((sD.refl g w).setCell _ _).setCell _ _).setCell _ _).setCell _ _).drew⟩
def pK(a:List qI):List jA:=a.flatMap λx=>[.pointer (vB x.b),aB x.t]
def YA(a b:List qI):pK (a++b)=pK a++pK b:=by simp[pK]
def EP(a:List qI):zA (pK a)=zA a*2:=by
 induction a with
 |nil=>rfl
 |cons x r b=>simp[pK]at b |-;omega
def IG:∀(a:List qI)(k:Nat),k<zA a->(pK a)[k*2]?=cA (.pointer (vB ((oD a k).b)))/\(pK a)[k*2+1]?=cA (aB (oD a k).t)
 |[],k,h=>absurd h (by simp)
 |x::r,0,_=>⟨rfl,rfl⟩
 |x::r,k+1,h=>by
  have c:=IG r k (by simpa using h);have e:pK (x::r)=.pointer (vB x.b):: aB x.t::pK r:=rfl;rw[e,show(k+1)*2=k*2+1+1 by omega,Ga,Ga,Ga,Ga];exact c
def ER{w:fA}{B g n a:Nat}{c:List qI}(h:w.ownsRow B 331 2 (qA (vB g) n a) n (pK c))(u:n=zA c):zH w g a c/\B<=g:=by
 obtain⟨e,_⟩|⟨s,d,b,e,o,p,t,i,l,m⟩:=h.2;simp at e;simp only[jA.slice.injEq,Qa,Addr.mk.injEq,Cc,true_and]at e;obtain⟨rfl,rfl⟩:=e;refine⟨⟨b,p,l,by omega,i,λk r=>?_⟩,o⟩;have f:∀j,j<n*2->b[j]?=(pK c)[j]?:=λj q=>by rw[<-m,Jb q,Yd]
 rw[f _ (by omega),f _ (by omega)];exact IG c k r
def zW{w:fA}{B g a:Nat}{b:List qI}(h:zH w g a b)(m:B<=g):w.ownsRow B 331 2 (qA (vB g) (zA b) a) (zA b) (pK b):=by
 obtain⟨c,d,f,i,k,l⟩:=h;refine⟨EP b,La ⟨g,a,c,rfl,m,d,i,k,f,?_⟩⟩;apply List.ext_getElem?;intro j;by_cases n:j<zA b*2
 .rw[Jb n,Yd];obtain⟨o,p⟩:=l (j / 2) (by omega);obtain⟨q,r⟩:=IG b (j / 2) (by omega);rcases Nat.mod_two_eq_zero_or_one j with e|e
  .have:j=j / 2*2:=by omega
   rw[this,o,q]
  have:j=j / 2*2+1:=by omega
  rw[this,p,r]
 rw[Fd (by simp;omega),Fd (by rw[EP];omega)]
def nt:(prog.info? 331).map (λi=>(i.zero,i.size,i.bytes))=cA (cA (.agg #[tA none,aB 0]),2,16):=by kernel_rfl
def BO(p q:jA)(s t:Int)(w:fA):cF 384 #[.agg #[p,aB s],.agg #[q,aB t]] w (sA (decide (s<t))):=by
 go_enter func384,ntmps384;go_wp2;go_ret;exact⟨rfl,aC bC bC⟩
def rW(x y : Value)(w : World) : (invoke (.fn (.method "loop.example/s02176/impl.before") #[]) #[.iface 331 x, y]).run prog w = .ok (.enter 384 #[x, y]) w := by kernel_rfl
def wU{P:Program}{c:Array Oper}{C:fA->Prop}{Q:Act->Prop}{a:Act}{o:Oper}{b:List Oper}{f:FuncId}{args:Array jA}{v:jA}(k:Region.wanted o (yielded c a.tmps)=eA)
(j:∀w,(execOp a.eval o).run P w=.ok (.enter f args) w)(i:∀w,C w->Calls P f args w (λe d=>e=vA v/\C d))(h:wpQuiet P c C Q b (a.put o.dst v)):wpQuiet P c C Q (o::b) a:=
 BigFrame.wpQuiet_want k λK g=>⟨v,λw k=>by unfold Oper.quietAt;rw[j];exact⟨rfl,i w k⟩,g _ h⟩
def qY{P:Program}(ρ:Operand->jA)(o:Oper)(r y:Operand)(name:String)(d:Array TypeId)(a:o.op=.call { callee:=.invoke r name,args:=#[y],argTypes:=d}){u z:jA}(b:ρ r=u)(c:ρ y=z){n:Next}{w:fA}
(h:(invoke (.fn (.method name) #[]) #[u,z]).run P w=.ok n w):(execOp ρ o).run P w=.ok n w:=by
 unfold execOp;simp only[a,resolve];simp[b,c,h]
def iu(x o B:Nat)(v:jA)(j:List qI)(s:qI)(w:fA)(G:Array jA)(M:TypeId)(h:jB w x G M)(ho:G[o]?=cA v)(O:w.ownsRow B 331 2 v (zA j) (pK j))(E:v.ownBlock≠cA x)(b:B<=w.1.size)(b:zA j<=1000000000):
 Calls prog 258 #[tA (cA (eB x o)),.agg #[.pointer (vB s.b),aB s.t]] w λe w'=>e=vA (yA #[])/\∃g f,jB w' x (G.setIfInBounds o (qA (vB g) (zA j+1) f)) M/\
  w'.ownsRow B 331 2 (qA (vB g) (zA j+1) f) (zA j+1) (pK (qR j s))/\(v.ownBlock=cA g\/w.1.size<=g)/\fB (λk=>k=x\/v.ownBlock=cA k) w w':=by
 obtain⟨I,hi,b,t,W⟩:=info_parts nt;have c0:w.cell? (eB x o)=cA v:=by rw[h.cell];exact ho
 have m:=bB h;have HX:cB (jB w x G M):=h;clear h;have Y:cB (((w.alloc (xA #[.pointer (vB s.b),aB s.t] 331)).alloc (xA #[.pointer (vB s.b),aB s.t] 331)).ownsRow B 331 2 v (zA j) (pK j)):=dB ((O.alloc _).alloc _);have Z:cB (((w.alloc (xA #[.pointer (vB s.b),aB s.t] 331)).alloc (xA #[.pointer (vB s.b),aB s.t] 331)).heap[w.1.size+1]?=cA (xA #[.pointer (vB s.b),aB s.t] 331 (0,0))):=dB (by have:=heap_alloc_new (w.alloc (xA #[.pointer (vB s.b),aB s.t] 331)) (xA #[.pointer (vB s.b),aB s.t] 331);simpa using this);have N:cB (∀p:fA,((w.alloc (xA #[.pointer (vB s.b),aB s.t] 331)).alloc (xA #[.pointer (vB s.b),aB s.t] 331)).grownBy p v.ownBlock->jB p x G M/\fB (λk=>v.ownBlock=cA k) w p):=λp h=>by
  have m:=(fB.of (S:=λk=>v.ownBlock=cA k) (aC (zF w _) bC)).trans' (fB.grown h);exact⟨m.blk HX.o E,m⟩
 clear O;go_enter func258,ntmps258;go_upto_region 1 with fail;go_cut [13] (λ_ m=>∃g f,jB m x (G.setIfInBounds o (qA (vB g) (zA j+1) f)) M/\zH m g f (j++[s])/\B<=g/\(v.ownBlock=cA g\/w.1.size<=g)/\g≠x/\fB (λk=>k=x\/v.ownBlock=cA k) w m)
 case first=>
  go_region_law (refine step_append_lies _ rfl (.tmp 10) (.tmp 12) 218 rfl B 331 I (.agg #[tA none,aB 0]) 2 16 underlying218 hi b t W rfl (by decide) v (zA j) (pK j) (by simp[Act.eval]) (by exact Y.o) (eB (w.1.size+1) 0) 1 1 [.pointer (vB s.b),aB s.t] (by simp[Act.eval]) rfl (fA.news_of_block (cs:=#[.pointer (vB s.b),aB s.t]) (by exact Z.o)) (by intro u m;simp at m;rcases m with rfl|rfl<;>rfl) (by omega) (by unfold maxLen;omega) (by omega) (by simp;omega) (w.1.size+1+1) (by simp) ?_;intro g f p I D m J;obtain⟨n,L⟩:=N.o p ⟨D.os,D.tape,D.output,D.size,D.block⟩;have c1:p.cell? (eB x o)=cA v:=(by rw[n.cell];exact ho);have d:=n.free o)
  all_goals(go_wp2_with fail;go_meet)
  all_goals
   have J:p.ownsRow B 331 2 (qA (vB g) (zA j+1) f) (zA j+1) (pK (j++[s])):=by rw[YA];exact I
   obtain⟨O,I⟩:=ER J (by simp);have K:g≠x:=by
    obtain h|h:=m
    .exact λe=>E (by rw[<-e];exact h)
    omega
   obtain⟨J,m1,m2⟩:=O;exact⟨g,f,n.set o _,⟨J,m1.but ((sD.refl _ _).setCell _ _) K,m2⟩,I,by obtain h|h:=m;exact Ca h;exact La (by omega),K,fB.setCell (S:=λk=>k=x\/v.ownBlock=cA k) (L.mono λk _ hk=>La hk) (Ca (Ca rfl)) _ _⟩
 obtain⟨g,f,n,O,I,m,K,L⟩:=hcut;rename fA=>p;have R:cB (jB p x (G.setIfInBounds o (qA (vB g) (zA j+1) f)) M):=n;have HM1:cB (zH p g f (j++[s])):=O;have HT1:cB _:=L;have r:cB _:=m;have hoc:=(Vb.1 ho).1;have J:(G.setIfInBounds o (qA (vB g) (zA j+1) f))[o]?=cA (qA (vB g) (zA j+1) f):=by simp[hoc]
 obtain⟨T,V⟩:∃c,c=G.setIfInBounds o (qA (vB g) (zA j+1) f):=⟨_,rfl⟩
 rw[<-V]at J R;have G:cB _:=V;clear V;have k0:p.cell? (eB x o)=cA (qA (vB g) (zA j+1) f):=by rw[R.o.cell];exact J
 clear n O L m Y Z N HX c0 ho hi b t W E;go_wp2;go_loopw [4] (λa wr=>∃(k:Nat)(l:List qI),a=aB k/\k<zA l/\zA l=zA j+1/\jB wr x T M/\zH wr g f l/\cB (qR j s=lR l k)/\fB (λk=>k=x\/v.ownBlock=cA k) w wr) (λa _=>(intOf a).toNat)
 case atStart=>exact⟨zA j,j++[s],by go_num,by simp,by simp,R.o,HM1.o,rfl,HT1.o⟩
 case round=>
  obtain⟨k,l,rfl,hk,O,Y,b,HS,m⟩:=hrel;have F:cB (jB wr x T M):=Y;have z:cB (zH wr g f l):=b;have Q:cB _:=m;have Z:wr.cell? (eB x o)=cA (qA (vB g) (zA j+1) f):=by rw[Y.cell];exact J
  clear Y b m k0;by_cases b:0<k
  .have X:=KZ (l:=l) b;obtain⟨q,b⟩:∃q,q=(k-1) / 2:=⟨_,rfl⟩
   rw[<-b]at X;have Y:((k:Int)-1) / 2=(q:Nat):=by omega
   have hp:q<zA l:=by omega
   obtain⟨a0,a1,_,_⟩:=z.o.cells hk;obtain⟨b0,b1,_,_⟩:=z.o.cells hp;have m:cB _:=X;have t:cB (∀W,xB wr W->Calls prog 293 #[tA (cA (eB x o)),aB k,aB (((k:Int)-1) / 2)] W λe w'=>e=vA (yA #[])/\zH w' g f (jH l k q)/\sD g W w'):=
    λW hW=>by rw[Y];exact RH x o g (zA j+1) f k q l W (by rw[(F.o.z hW).cell];exact J) O.symm (z.o.z hW) (by omega) (by omega)
   have HL:cB _:=O;have o:k<zA j+1:=by omega
   have o:q<zA j+1:=by omega
   clear X b O;have o:=kC.cells Z;have J:=kC.cells a0;have d2:=kC.cells a1;have d3:=kC.cells b0;have d4:=kC.cells b1;have b:=kC.there wr;clear a0 a1 b0 b1 Z;generalize oD l k=A at *;generalize oD l q=C at *;go_wp2_with fail;refine zB (by kernel_rfl) (by kernel_rfl) ?_;repeat (go_big_quiet_step (fail))
   refine wU (by rfl) (λW=>qY _ _ _ _ _ _ rfl rfl rfl (rW _ _ W)) (by rintro _ ⟨x,rfl⟩;exact oC (BO _ _ _ _ _)) ?_;simp only[Act.put,Ud,Jd,Ze];repeat (go_big_quiet_step (fail))
   refine wpQuiet_nil ?_;rintro _ ⟨y,rfl⟩;have Z:cB _:=y.h;have HE:cB _:=Y;clear o J d2 d3 d4 b Y;generalize y.w'=b at *;clear y;by_cases H:A.t<C.t
   .have o:decide (A.t<C.t)=eA:=by simpa using H
    rw[o];have P:cB (qR j s=lR (jH l k q) q):=by show _=_;rw[HS.o,m.o,Ma H]
    go_wp2_with fail;apply jC (t.o _ Z.o);rintro J ⟨b,U⟩;have W:cB (zH J g f (jH l k q)):=b;have Y:cB (jB J x T M):=(F.o.z Z.o).but U K.symm;have HT3:cB (fB (λk=>k=x\/v.ownBlock=cA k) w J):=by
     refine(Q.o.trans' (fB.of Z.o)).trans ((fB.but U).mono λi _ e=>?_);subst e;obtain h|h:=r.o;exact Ca (La h);exact La h
    clear b U t;go_wp2;exact⟨⟨q,jH l k q,by rw[HE.o],by rw[pD];exact hp,by rw[pD];exact HL.o,Y.o,W.o,P.o,HT3.o⟩,by simp[intOf];omega⟩
   have o:decide (A.t<C.t)=dA:=by simpa using H
   rw[o];have P:cB (qR j s=l):=by show _=_;rw[HS.o,m.o,Ja H]
   go_wp2;refine bodyPost_ret (v:=yA #[]) (by simp[results,results258,go_sem]) rfl ⟨rfl,g,f,G.o ▸ F.o.z Z.o,?_,r.o,Q.o.trans' (fB.of Z.o)⟩;rw[P.o,<-HL.o];exact zW (z.o.z Z.o) I
  go_wp2;go_end0;obtain rfl:k=0:=by omega
  rw[HS.o,LB];refine⟨rfl,g,f,G.o ▸ F.o,?_,r.o,Q.o⟩;rw[<-O];exact zW z.o I
def lO(w:fA)(A:Nat->Prop)(a:nC)(b:List kB):Prop:=b=[]\/∃g o,a=cA (eB g o)/\A g/\g<w.1.size/\LY w g o b
def lO.pairs{w:fA}{A:Nat->Prop}{a:nC}{b:List kB}(h:lO w A a b):mC w a b:=by grind [lO,mC]
def lD.toN{w:fA}{C:Nat}{A:Nat->Prop}{a:nC}{b:List kB}(h:lD w C a b)(c:∀g,C<=g->A g):lO w A a b:=by grind [lD,lO]
def aOa(w:fA)(A:Nat->Prop)(b o:Nat)(t:gB):Prop:=
 ∃a d c e,w.cell? (eB b o)=cA (.string t.N)/\w.cell? (eB b (o+1))=cA (aB t.L)/\w.cell? (eB b (o+2))=cA (qA a (zA t.M) d)/\w.cell? (eB b (o+3))=cA (qA c (zA t.Z) e)/\
  lO w A a t.M/\lO w A c t.Z
def zK(w:fA)(A:Nat->Prop)(a:nC)(c:List gB):Prop:=c=[]\/∃b o,a=cA (eB b o)/\A b/\b<w.1.size/\∀i(h:i<zA c),aOa w A b (o+i*4) c[i]
def lO.keep{w w':fA}{A:Nat->Prop}{a:nC}{d:List kB}(h:lO w A a d)(l:w.1.size<=w'.1.size)(k:∀g,A g->g<w.1.size->w'.heap[g]?=w.heap[g]?):lO w' A a d:=by
 obtain h|⟨g,o,rfl,c,b,h⟩:=h;exact Ca h;have e:∀j,w'.cell? (eB g j)=w.cell? (eB g j):=λj=>fA.cell?_of_block (k g c b);exact La ⟨g,o,rfl,c,by omega,λi f=>by simp only[e];exact h i f⟩
def zK.keep{w w':fA}{A:Nat->Prop}{a:nC}{l:List gB}(h:zK w A a l)(k:w.1.size<=w'.1.size)(d:∀g,A g->g<w.1.size->w'.heap[g]?=w.heap[g]?):zK w' A a l:=by
 obtain h|⟨b,o,rfl,f,e,h⟩:=h;exact Ca h;refine La ⟨b,o,rfl,f,by omega,λi y=>?_⟩;obtain⟨m,p,n,q,r,s,t,u,v,x⟩:=h i y;have c:∀j,w'.cell? (eB b j)=w.cell? (eB b j):=λj=>fA.cell?_of_block (d b f e);exact⟨m,p,n,q,(c _).trans r,(c _).trans s,(c _).trans t,(c _).trans u,v.keep k d,x.keep k d⟩
def zK.z{w d:fA}{A:Nat->Prop}{a:nC}{c:List gB}(h:zK w A a c)(b:xB w d):zK d A a c:=h.keep b.size λg _ e=>b.block g e
def lO.mono{w:fA}{A A':Nat->Prop}{a:nC}{b:List kB}(h:lO w A a b)(c:∀g,A g->A' g):lO w A' a b:=by grind [lO]
def zK.mono{w:fA}{A A':Nat->Prop}{a:nC}{f:List gB}(h:zK w A a f)(c:∀g,A g->A' g):zK w A' a f:=by
 obtain h|⟨b,o,e,q,d,h⟩:=h;exact Ca h;refine La ⟨b,o,e,c b q,d,λi v=>?_⟩;obtain⟨j,l,k,m,n,p,r,s,t,u⟩:=h i v;exact⟨j,l,k,m,n,p,r,s,t.mono c,u.mono c⟩
def zK.tens{w:fA}{A:Nat->Prop}{a:nC}{d:List gB}(h:zK w A a d):aD w a d:=by
 obtain h|⟨b,o,rfl,_,c,h⟩:=h;exact Ca h;refine La ⟨b,o,rfl,c,λi r=>?_⟩;obtain⟨e,g,f,j,k,l,m,n,p,q⟩:=h i r;exact⟨e,g,f,j,k,l,m,n,p.pairs,q.pairs⟩
def dD.toN{w:fA}{C:Nat}{A:Nat->Prop}{a:nC}{c:List gB}(h:dD w C a c)(b:∀g,C<=g->A g):zK w A a c:=by
 obtain h|⟨g,o,k,t,T,rfl,s,u,_,h⟩:=h;exact Ca h;refine La ⟨g,o,rfl,b g s,bB u,λi v=>?_⟩;obtain⟨d,f,e,j,l,m,n,p,q,r⟩:=h i v;exact⟨d,f,e,j,l,m,n,p,q.own.toN b,r.own.toN b⟩
def aD.toN{w:fA}{a:nC}{d:List gB}(h:aD w a d):zK w (λg=>g<w.1.size) a d:=by
 obtain h|⟨b,o,e,c,h⟩:=h;exact Ca h;refine La ⟨b,o,e,c,c,λi v=>?_⟩;obtain⟨f,m,j,n,p,q,r,s,t,u⟩:=h i v;exact⟨f,m,j,n,p,q,r,s,t.elim Ca fun⟨g,o,e,l,k⟩=>La ⟨g,o,e,l,l,k⟩,u.elim Ca fun⟨g,o,e,l,k⟩=>La ⟨g,o,e,l,l,k⟩⟩
def zK.lt{w:fA}{A:Nat->Prop}{a:nC}{d:List gB}(h:zK w A a d):zK w (λg=>A g/\g<w.1.size) a d:=by
 obtain h|⟨b,o,e,x,c,h⟩:=h;exact Ca h;refine La ⟨b,o,e,⟨x,c⟩,c,λi y=>?_⟩;obtain⟨f,n,j,p,q,r,s,t,u,v⟩:=h i y;exact⟨f,n,j,p,q,r,s,t,u.elim Ca fun⟨g,o,e,l,m,k⟩=>La ⟨g,o,e,⟨l,m⟩,m,k⟩,v.elim Ca fun⟨g,o,e,l,m,k⟩=>La ⟨g,o,e,⟨l,m⟩,m,k⟩⟩
def zK.turn{w W:fA}{A S:Nat->Prop}{a:nC}{c:List gB}(h:zK w A a c)(b:fB S w W)(d:∀g,A g->¬S g):zK W A a c:=h.keep b.size λg e f=>b.block g f (d g e)
def rJ{s:pB}{b:Bool}(h:cG s=b)(w:fA)(a:s.size<=maxLen):rI 92 #[.string s] w (sA b):=h ▸ PG s w a
def uU(a:nC)(r:Nat)(d:List iB)(c p m s:Int)(O:Bool)(w:fA)(hf:uB w a d)(hs:iP d)(I:zA d<=maxLen)(J:pC d<=1000000000):
 cF 34 #[.agg #[qA a (zA d) r,mA oA c,mA oA p,mA oA m,mA oA s,sA O]] w (sA (wE d c p m s)):=by
 obtain⟨z0,z1,z2,z3,z4,z5⟩:=TQ w (qA a (zA d) r) (mA oA c) (mA oA p) (mA oA m) (mA oA s) (sA O) 35;have d0:=kC.cells z0;have d1:=kC.cells z1;have d2:=kC.cells z2;have d3:=kC.cells z3;have d4:=kC.cells z4;have d5:=kC.cells z5;have F:xB w (w.alloc (xA #[qA a (zA d) r,mA oA c,mA oA p,mA oA m,mA oA s,sA O] 35)):=gD.alloc (Ia _) _;have hne:=kC.there (w.alloc (xA #[qA a (zA d) r,mA oA c,mA oA p,mA oA m,mA oA s,sA O] 35));have C:cB (∀x:kC (w.alloc (xA #[qA a (zA d) r,mA oA c,mA oA p,mA oA m,mA oA s,sA O] 35)),uB x.w' a d):=λx=>(hf.z F).z x.h;have R:cB (∀x:kC (w.alloc (xA #[qA a (zA d) r,mA oA c,mA oA p,mA oA m,mA oA s,sA O] 35)),xB w x.w'):=λx=>F.trans (x.h.mono F.size);have HS:cB (iP d):=hs;have HL:cB _:=I;unfold maxLen at I;clear z0 z1 z2 z3 z4 z5 F hf hs;by_cases hA0:(1000:Int)<zA d
 .have E:cB (wE d c p m s=dA):=by
   show _=_;have e:decide (zA d<=1000)=dA:=by simp;omega
   simp only[wE,e,Be]
  go_enter func34,ntmps34;go_wp2_with fail;refine zB (by kernel_rfl) (by kernel_rfl) ?_;repeat (go_big_quiet_step (fail))
  refine wpQuiet_nil ?_;rintro _ ⟨x,rfl⟩;go_wp2;go_ret;exact⟨oB E.o.symm,R.o x⟩
 have hA1:decide ((1000:Int)<zA d)=dA:=by simp;omega
 have hA2:decide (1000<zA d)=dA:=by simp;omega
 have Z:decide (zA d<=1000)=eA:=by simp;omega
 by_cases z:yB c 0 1000000000=dA
 .have E:cB (wE d c p m s=dA):=by show _=_;simp only[wE,z,Wg,Be]
  have u:cB _:=z;clear z Z;go_enter func34,ntmps34;go_wp2_with fail;refine zB (by kernel_rfl) (by kernel_rfl) ?_;repeat (go_big_quiet_step (first|(go_at_call 86;apply bD;apply eE;exact u.o)))
  refine wpQuiet_nil ?_;rintro _ ⟨x,rfl⟩;go_wp2;go_ret;exact⟨oB E.o.symm,R.o x⟩
 have qB:yB c 0 1000000000=eA:=by simpa using z
 have u:cB _:=qB;clear z;by_cases hC0:c<(pC d:Int)
 .have E:cB (wE d c p m s=dA):=by
   show _=_;have e:decide ((pC d:Int)<=c)=dA:=by simp;omega
   simp only[wE,e,Wg,Be]
  clear Z qB;go_enter func34,ntmps34;go_wp2_with fail;refine zB (by kernel_rfl) (by kernel_rfl) ?_;repeat (go_big_quiet_step (first|(go_at_call 86;apply bD;apply eE;exact u.o)|(go_at_call 91;exact oC (xY _ _ _ _ _ _ _ _ _ (C.o _) HL.o J))))
  refine wpQuiet_nil ?_;rintro _ ⟨x,rfl⟩;go_wp2;go_ret;exact⟨oB E.o.symm,R.o x⟩
 have hC1:decide (c<(pC d:Int))=dA:=by simp;omega
 have qC:decide ((pC d:Int)<=c)=eA:=by simp;omega
 have E:cB (wE d c p m s=(gI d&&yB p 0 1000000000000000&&yB m 0 1000000000000000&&yB s 0 1000000000000000)):=by show _=_;simp only[wE,Z,qB,qC,Oc,Bool.and_true]
 clear Z qB qC;go_enter func34,ntmps34;go_wp2_with fail;refine zB (by kernel_rfl) (by kernel_rfl) ?_;repeat (go_big_quiet_step (first|(go_at_call 86;apply bD;apply eE;exact u.o)|(go_at_call 91;exact oC (xY _ _ _ _ _ _ _ _ _ (C.o _) HL.o J))))
 refine wpQuiet_nil ?_;rintro _ ⟨x,rfl⟩;have HF:cB (uB x.w' a d):=C.o x;have S:cB (xB w x.w'):=R.o x;have n:w.1.size<x.w'.1.size:=by have:=x.h.size;simp at this;omega
 have e0:=d0 x;have T:=d2 x;have e3:=d3 x;have e4:=d4 x;clear d0 d1 d2 d3 d4 d5 C R hne u;generalize x.w'=W at *;clear x;have HC:cB (∀wr,xB W wr->wr.cell? ⟨w.1.size,0,none⟩=cA (qA a (zA d) r)/\wr.cell? ⟨w.1.size,2,none⟩=cA (mA oA p)/\
  wr.cell? ⟨w.1.size,3,none⟩=cA (mA oA m)/\wr.cell? ⟨w.1.size,4,none⟩=cA (mA oA s)):=λwr h=>
  ⟨(h.cell n).trans e0,(h.cell n).trans T,(h.cell n).trans e3,(h.cell n).trans e4⟩
 go_wp2;go_loopw [3,4,25] (λ_ _ i wr=>∃k:Nat,k<=zA d/\i=mA oA k/\wS d k=eA/\xB W wr) (λ_ _ i _=>zA d-(intOf i).toNat)
 case atStart=>exact⟨0,Oa _,rfl,rfl,gD⟩
 case round=>
  obtain⟨k,hk,rfl,U,g⟩:=hrel;obtain⟨e0',e2',e3',e4'⟩:=HC.o wr g;have L:cB _:=U;have t:cB _:=S.o.trans (g.mono (Vg n));have M:w.1.size<wr.1.size:=by have:=g.size;omega
  have hsz2:¬w.1.size=wr.1.size:=by omega
  clear U e0 T e3 e4 S HC;by_cases l:k<zA d
  .obtain ⟨b,o,rfl,hb,c0,c1,c2⟩:=(HF.o.z g).at l;have V:=(HS.o k l).1;have hsd:=(HS.o k l).2;have y:cB _:=V;unfold maxLen at hsd;clear V;by_cases P:cG d[k].N=dA
   .have f:mT d k=dA:=by simp[mT,Va l,tO,P]
    have D:cB _:=cZ f l;have N:cB _:=P;clear f P;go_wp2_with(first|(go_at_call 92;apply jC (rJ N.o _ y.o);rintro q rfl));go_ret;exact⟨oB (by rw[E.o,gI,D.o];simp),t.o.alloc (Vg M) _⟩
   have H:cG d[k].N=eA:=by simpa using P
   have N:cB _:=H;by_cases A:yB d[k].Y 0 d[k].data.size=dA
   .have f:mT d k=dA:=by simp[mT,Va l,tO,A]
    have D:cB _:=cZ f l;have v:cB _:=A;clear f P H A;go_wp2_with(first|(go_at_call 92;apply jC (rJ N.o _ y.o);rintro q rfl)|(go_at_call 86;apply jC (eE v.o _);rintro q rfl));go_ret;exact⟨oB (by rw[E.o,gI,D.o];simp),t.o.alloc (Vg M) _⟩
   have B:yB d[k].Y 0 d[k].data.size=eA:=by simpa using A
   have v:cB _:=B;have G:tO d[k]=eA:=by simp[tO,H,B]
   clear P H A B;by_cases hk0:(0:Int)<k
   .obtain ⟨b2,o2,T,q1,c0',q2,q3⟩:=(HF.o.z g).at (i:=k-1) (by omega)
    simp only[Qa,Addr.mk.injEq,Cc]at T;obtain⟨rfl,rfl⟩:=T;have f:mT d k=Op.bytesLess d[k-1].N.toList d[k].N.toList:=by
     obtain⟨j,rfl⟩:∃j,k=j+1:=⟨k-1,by omega⟩
     simp[mT,Va l,Va (show j<zA d by omega),G]
    generalize d[k-1].N=gn at c0' f;have hk1:0<k:=by omega
    clear q1 q2 q3 G;by_cases hl:Op.bytesLess gn.toList d[k].N.toList=eA
    .have D:cB (wS d (k+1)=eA):=by show wS d (k+1)=eA;rw[AE,L.o,f,hl];rfl
     clear f;go_wp2_with(first|(go_at_call 92;apply jC (rJ N.o _ y.o);rintro q rfl)|(go_at_call 86;apply jC (eE v.o _);rintro q rfl));go_quiet (fail)
     go_wp2;exact⟨⟨k+1,by omega,by go_num,D.o,below_drewN (g.alloc g.size _) _⟩,by simp[intOf];omega⟩
    have hl':Op.bytesLess gn.toList d[k].N.toList=dA:=by simpa using hl
    have D:cB _:=cZ (by rw[f];exact hl') l;clear f hl;go_wp2_with(first|(go_at_call 92;apply jC (rJ N.o _ y.o);rintro q rfl)|(go_at_call 86;apply jC (eE v.o _);rintro q rfl));go_quiet (fail)
    go_wp2;go_ret;exact⟨oB (by rw[E.o,gI,D.o];simp),below_drewN (t.o.alloc (Vg M) _) _⟩
   have f:mT d k=eA:=by
    obtain rfl:k=0:=by omega
    simp[mT,Va l,G]
   have D:cB (wS d (k+1)=eA):=by show wS d (k+1)=eA;rw[AE,L.o,f];rfl
   have hk1:decide (0<k)=dA:=by simp;omega
   clear f G;go_wp2_with(first|(go_at_call 92;apply jC (rJ N.o _ y.o);rintro q rfl)|(go_at_call 86;apply jC (eE v.o _);rintro q rfl));go_quiet (fail)
   go_wp2;exact⟨⟨k+1,by omega,by go_num,D.o,below_drewN (g.alloc g.size _) _⟩,by simp[intOf];omega⟩
  have ek:k=zA d:=by omega
  have E2:cB (wE d c p m s=(yB p 0 1000000000000000&&yB m 0 1000000000000000&&yB s 0 1000000000000000)):=by
   show _=_;have:=L.o;rw[ek]at this;rw[E.o,gI,this,Oc]
  by_cases X:yB p 0 1000000000000000=dA
  .have K:cB _:=X;clear X;go_wp2_with(first|(go_at_call 86;apply jC (eE K.o _);rintro q rfl));go_ret;exact⟨oB (by rw[E2.o,K.o];rfl),t.o⟩
  have K:cB (yB p 0 1000000000000000=eA):=by show _=_;simpa using X
  clear X;by_cases Y:yB m 0 1000000000000000=dA
  .have Q:cB _:=Y;clear Y;go_wp2_with fail;apply jC (eE K.o _);rintro q rfl;go_wp2_with fail;apply jC (eE Q.o _);rintro q rfl;go_wp2;go_ret;exact⟨oB (by rw[E2.o,K.o,Q.o];rfl),t.o⟩
  have Q:cB (yB m 0 1000000000000000=eA):=by show _=_;simpa using Y
  clear Y;go_wp2_with fail;apply jC (eE K.o _);rintro q rfl;go_wp2_with fail;apply jC (eE Q.o _);rintro q rfl;go_wp2_with fail;apply jC (uD _ _ _ _);rintro q rfl;go_wp2;go_ret;exact⟨oB (by rw[E2.o,K.o,Q.o];rfl),t.o⟩
