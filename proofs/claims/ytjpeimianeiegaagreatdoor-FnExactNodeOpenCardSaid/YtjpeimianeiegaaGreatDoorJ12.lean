import Derived.Test.YtjpeimianeiegaaGreatDoorJ09
import Derived.Test.YtjpeimianeiegaaGreatDoorJ10
set_option maxRecDepth 100000
set_option maxHeartbeats 1000000
namespace Go.Proofs.YtjpeimianeiegaaGreatDoor
open Go.RowKit Tryz
theorem jZ (r:Nat) (w:World) (f:r<=1114111):Calls prog 268 #[.int .i32 (r:Nat)] w fun e d=>e=.returned (.bool (ctl r))/\d=w:=by
 by_cases a:r<32
 ·have E:Hid (ctl r=true):=by show _=_;simp[ctl,a]
  go_enter func268,ntmps268;go_wp2;go_ret;exact⟨kA (by rw[E.out]),rfl⟩
 by_cases b:127<=r
 ·by_cases c:r<=159
  ·have E:Hid (ctl r=true):=by show _=_;simp[ctl,b,c]
   go_enter func268,ntmps268;go_wp2;go_ret;exact⟨kA (by rw[E.out];simp;omega),rfl⟩
  ·have E:Hid (ctl r=false):=by show _=_;simp[ctl,a,c]
   go_enter func268,ntmps268;go_wp2;go_ret;exact⟨kA (by rw[E.out];simp;omega),rfl⟩
 ·have E:Hid (ctl r=false):=by show _=_;simp[ctl,a,b]
  go_enter func268,ntmps268;go_wp2;go_ret;exact⟨kA (by rw[E.out];simp;omega),rfl⟩
abbrev dF (w:World):Prop:=Lib.Utf8Tabs 6 7 w
theorem dF.later {w a:World} (h:dF w) (b:Below w.heap.size w a):dF a:=Utf8Tabs_below h b
theorem pr (s:ByteArray) (p:Nat) (w:World) (k:p<s.size) (c:dF w):
 Calls prog 267 #[.string s,.int .i64 (p:Nat)] w fun e b=>e=.returned (.int .i64 ((Utf8.decode s p).2:Nat))/\Below w.heap.size w b:=by
 have j:(s.extract p s.size).size=s.size-p:=by simp
 have e:Lib.decodeGo (s.extract p s.size)=Utf8.decode s p:=by
  rw[Lib.decodeGo,Ca (by omega),UX]
 have d:∀W,dF W->Calls prog 283 #[.string (s.extract p s.size)] W fun e b=>e=.returned (.tuple #[.int .i32 (Utf8.decode s p).1,.int .i64 (Utf8.decode s p).2])/\Below W.heap.size W b:=fun W i=>by
  have:=utf8_DecodeRuneInString (s.extract p s.size) W i;rw[e]at this;exact this
 generalize (Utf8.decode s p).1=R at *;generalize (Utf8.decode s p).2=N at *;have g:Hid _:=d;have h:Hid (dF w):=c;clear d c e j;go_enter func267,ntmps267;go_wp2_with fail;refine(g.out _ h.out).mono ?_;rintro e l ⟨rfl,a⟩;have f:Hid _:=a;clear a;go_wp2;go_ret;exact⟨rfl,f.out⟩
theorem QJ {w:World} {g:Nat} {x:Obj} (h:w.heap[g]?=some x):g<w.heap.size:=by
 rcases Ac g w.heap.size with b|a
 ·exact b
 ·rw[Tc a]at h;exact absurd h (by simp)
def oK (W:World) (B:Nat) (s:ByteArray) (p:Nat):Prop:=W.heap[B]?=some (.stringIter s p)
def cL (W:World) (B:Nat) (s:ByteArray) (p:Nat):World:={ W with heap:=W.heap.setIfInBounds B (.stringIter s p) }
theorem aGz {P:Program} (W:World) (B:Nat) (s:ByteArray) (pos:Nat) (b:TypeId) (a:oK W B s pos) (h:pos<s.size):
 (Instr.next (.pointer (some ⟨B,0,none⟩)) true b).run P W=.ok (.tuple #[.bool true,.int .i64 pos,.int .i32 (Utf8.decode s pos).1]) (cL W B s (pos+(Utf8.decode s pos).2)):=by
 unfold oK at a;simp only[Instr.next,getObj,setObj,Sem.run_bind,Sem.run,a,Result.andThen,h,Lf];simp[goInt,cL]
theorem aHa {P:Program} (W:World) (B:Nat) (s:ByteArray) (pos:Nat) (b:TypeId) (a:oK W B s pos) (h:¬pos<s.size):
 (Instr.next (.pointer (some ⟨B,0,none⟩)) true b).run P W=.ok (.tuple #[.bool false]) W:=by
 unfold oK at a;simp[Instr.next,getObj,Sem.run,a,h]
theorem oK.set {W:World} {B:Nat} {s:ByteArray} {p:Nat} (h:oK W B s p) (q:Nat):oK (cL W B s q) B s q:=by
 have:=QJ h;unfold oK cL;simp[this]
theorem oK.later {W a:World} {B:Nat} {s:ByteArray} {p:Nat} (h:oK W B s p) (b:Below W.heap.size W a):oK a B s p:=(b.block B (QJ h)).trans h
theorem SU {w W:World} {B C:Nat} (h:Below C w W) (a:C<=B) (s:ByteArray) (q:Nat):Below C w (cL W B s q):=
 h.trans ⟨rfl,rfl,rfl,by simp[cL],fun k b=>by simp only[cL];rw[Aa (by omega)]⟩
theorem eU {s:ByteArray} (h:¬ZZ s):QF s=false:=Mb h
theorem WE {s:ByteArray} (h:ZZ s):QF s=true:=Rb h
theorem bo (s:ByteArray) (w:World) (A:s.size<=maxLen):
 Calls prog 238 #[.string s] w fun e C=>e=.returned (.bool (QF s))/\C=w:=by
 unfold maxLen at A;by_cases b:1<=s.size/\s.size<=64
 ·have c:uA (s.size:Int) 1 64=true:=by simp[uA];omega
  have g:Hid _:=c;clear c;have t:0<s.size:=by omega
  have o:=b.2;have x:s[0].toNat<256:=s[0].toNat_lt;have a:Hid _:=rT s 0 t;by_cases q:48<=s[0].toNat/\s[0].toNat<=57
  ·have E:Hid (QF s=false):=eU (fun h=>by
    have:=h.2.2 0 t;unfold nZ rW at this;rw[<-a.out]at this;omega)
   have d:¬((s[0].toNat:Int)<48):=by omega
   have z:¬((57:Int)<(s[0].toNat:Int)):=by omega
   clear q b;go_enter func238,ntmps238;go_wp2_with fail;refine(fD _ _ _ _).mono ?_;rintro e u ⟨rfl,hw⟩;rw[g.out];replace hw:=hw.symm;subst hw;go_wp2;go_ret;exact⟨kA E.out.symm,rfl⟩
  ·have v:Hid (¬(48<=pB s 0/\pB s 0<=57)):=by show ¬_;rw[<-a.out];exact q
   have d:(s[0].toNat:Int)<48\/(57:Int)<(s[0].toNat:Int):=by omega
   clear q b;go_enter func238,ntmps238;go_wp2_with fail;refine(fD _ _ _ _).mono ?_;rintro e u ⟨rfl,hw⟩;rw[g.out];replace hw:=hw.symm;subst hw;go_wp2;all_goals
    go_loop [3,4] (fun i _=>∃j:Nat,j<=s.size/\i=.int .i64 j/\Hid (∀k,k<j->nZ s k)) (fun i _=>s.size-(intOf i).toNat)
    case atStart=>exact⟨0,Ha _,rfl,fun k r=>absurd r (by omega)⟩
    case round=>
     obtain⟨j,G,rfl,m⟩:=hrel;by_cases f:j<s.size
     ·have y:s[j].toNat<256:=s[j].toNat_lt;have l:Hid _:=rT s j f;have n:Hid (j=0->¬(48<=s[j].toNat/\s[j].toNat<=57)):=fun e=>by subst e;rw[l.out];exact v.out
      clear d x;by_cases D:s[j].toNat=95
      ·have p:((s[j].toNat:Int) != 95)=false:=by simp;omega
       go_wp2;all_goals
        refine⟨⟨j+1,by omega,by go_num,?_⟩,by simp[intOf];omega⟩;show ∀k,_;intro k r;by_cases e:k=j
        ·subst e;unfold nZ rW;rw[<-l.out];omega
        ·exact m.out k (by omega)
      ·have p:((s[j].toNat:Int) != 95)=true:=by simp;omega
       go_wp2;all_goals first
        |(go_ret
          refine⟨kA (eU ?_).symm,rfl⟩
          intro h
          have:=h.2.2 j f
          unfold nZ rW OC at this
          rw[<-l.out]at this
          omega)
        |(refine⟨⟨j+1,by omega,by go_num,?_⟩,by simp[intOf];omega⟩
          show ∀k,_
          intro k r
          by_cases e:k=j
          ·subst e
           have:=n.out
           unfold nZ rW OC
           rw[<-l.out]
           omega
          ·exact m.out k (by omega))
        |(exfalso;rename_i B;simp at B;omega)
     ·go_wp2;go_ret;exact⟨kA (WE ⟨by omega,o,fun i F=>m.out i (by omega)⟩).symm,rfl⟩
 ·have c:uA (s.size:Int) 1 64=false:=by simp[uA];omega
  have g:Hid _:=c;have E:Hid _:=eU (fun h=>b ⟨h.1,h.2.1⟩);clear c b;go_enter func238,ntmps238;go_wp2_with fail;refine(fD _ _ _ _).mono ?_;rintro e u ⟨rfl,hw⟩;rw[g.out];replace hw:=hw.symm;subst hw;go_wp2;go_ret;exact⟨kA E.out.symm,rfl⟩
