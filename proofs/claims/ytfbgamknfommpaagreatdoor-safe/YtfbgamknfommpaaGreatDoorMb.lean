import Derived.Test.YtfbgamknfommpaaGreatDoorChecked
import Derived.Test.YtfbgamknfommpaaGreatDoorMa
import Derived.Deep.QuietTactic
import Derived.BigQuiet
import Derived.BigRegion
import Derived.Deep.OwnRows
import Derived.Deep.RegionWith
import Derived.Deep.RegionHeld3
namespace Go.Proofs.YtfbgamknfommpaaGreatDoor
open Go.RowKit
open Go.RowKit Go.Maps
def kList:List Nat:=[
 0x428a2f98,0x71374491,0xb5c0fbcf,0xe9b5dba5,0x3956c25b,0x59f111f1,0x923f82a4,0xab1c5ed5,
 0xd807aa98,0x12835b01,0x243185be,0x550c7dc3,0x72be5d74,0x80deb1fe,0x9bdc06a7,0xc19bf174,
 0xe49b69c1,0xefbe4786,0x0fc19dc6,0x240ca1cc,0x2de92c6f,0x4a7484aa,0x5cb0a9dc,0x76f988da,
 0x983e5152,0xa831c66d,0xb00327c8,0xbf597fc7,0xc6e00bf3,0xd5a79147,0x06ca6351,0x14292967,
 0x27b70a85,0x2e1b2138,0x4d2c6dfc,0x53380d13,0x650a7354,0x766a0abb,0x81c2c92e,0x92722c85,
 0xa2bfe8a1,0xa81a664b,0xc24b8b70,0xc76c51a3,0xd192e819,0xd6990624,0xf40e3585,0x106aa070,
 0x19a4c116,0x1e376c08,0x2748774c,0x34b0bcb5,0x391c0cb3,0x4ed8aa4a,0x5b9cca4f,0x682e6ff3,
 0x748f82ee,0x78a5636f,0x84c87814,0x8cc70208,0x90befffa,0xa4506ceb,0xbef9a3f7,0xc67178f2]
def kNum(j:Nat):Nat:=kList.getD j 0
theorem kNum_all:(List.range 64).all (fun j=>decide (kNum j<4294967296))=true:=by decide+kernel
theorem kNum_lt(j:Nat):kNum j<4294967296:=by
 by_cases h:j<64
 ·have:=List.all_eq_true.1 kNum_all j (List.mem_range.2 h);simpa using this
 unfold kNum;rw[List.getD_eq_getElem?_getD,List.getElem?_eq_none (by simp[kList];omega)];simp
def pz(s:ByteArray):Nat→ByteArray
 |0=>s
 |z+1=>pz s z++⟨#[0]⟩
theorem pz_size(s:ByteArray)(z:Nat):(pz s z).size=s.size+z:=by
 induction z with
 |zero=>rfl
 |succ z ih=>rw[pz,ByteArray.size_append,ih];rfl
def zeroN(n:Nat):Nat:=(119- n%64)%64
def padRef(s:ByteArray):ByteArray:=(pz (s++⟨#[128]⟩) (zeroN s.size)++⟨(be4 (s.size/536870912)).toArray⟩)++⟨(be4 (8*s.size%4294967296)).toArray⟩
theorem padRef_size(s:ByteArray):(padRef s).size=s.size+9+zeroN s.size:=by
 unfold padRef
 rw[ByteArray.size_append,ByteArray.size_append,pz_size,ByteArray.size_append]
 show s.size+1+zeroN s.size+4+4=_
 omega
def h0:E8:=⟨0x6a09e667,0xbb67ae85,0x3c6ef372,0xa54ff53a,0x510e527f,0x9b05688c,0x1f83d9ab,0x5be0cd19⟩
theorem h0_ok:h0.ok:=by refine ⟨?_, ?_, ?_, ?_, ?_, ?_, ?_, ?_⟩<;>decide
def foldB(p:ByteArray):Nat→E8
 |0=>h0
 |m+1=>mixOf kNum (foldB p m) (p.extract (64*m) (64*m+64))
def outB(x:E8):Nat→ByteArray
 |0=>⟨#[]⟩
 |k+1=>outB x k++⟨(be4 (x.nth k)).toArray⟩
theorem outB_size(x:E8)(k:Nat):(outB x k).size=4*k:=by
 induction k with
 |zero=>rfl
 |succ k ih=>rw[outB,ByteArray.size_append,ih];show 4*k+4=_;omega
def digits16:ByteArray:=⟨#[48,49,50,51,52,53,54,55,56,57,97,98,99,100,101,102]⟩
def hexB(raw:ByteArray):Nat→ByteArray
 |0=>⟨#[]⟩
 |k+1=>hexB raw k++digits16.extract (btN raw k/16) (btN raw k/16+1)++digits16.extract (btN raw k%16) (btN raw k%16+1)
def digestOf(s:ByteArray):ByteArray:=hexB (outB (foldB (padRef s) ((padRef s).size/64)) 8) 32
end Go.Proofs.YtfbgamknfommpaaGreatDoor
